"""What several tests need: nets to try, and answers worked out in other ways than the program's."""

import random
from itertools import combinations

from oddpairs.nets import Net

HUGE = 10 ** 5000

# What is no whole number, whatever the net. HUGE is one, but no number of a net.
NO_NUMBERS = [True, False, None, "0", "", 0.0, 1.0, [0], (0,), {}, b"0"]

# What is no size of a net.
NO_SIZES = [0, -1, -40, 41, 100, HUGE, -HUGE, 40.0, 2.5, "4", [4], (4,)] + NO_NUMBERS


def no_places(size):
    """Things that are no places of a net of that size."""
    return [size, size + 1, 41, 100, -1, -size, HUGE, -HUGE, (0, 1), [], 2.0] + NO_NUMBERS


def all_ties(size):
    """All ties that a net of that size can have, rising."""
    return list(combinations(range(size), 2))


def some_ties(chance, size, part):
    """Ties of a net of that size, each there by that part of a hundred."""
    return [tie for tie in all_ties(size) if chance.randrange(100) < part]


def every_tie_list(size):
    """The ties of every net of that size."""
    every = all_ties(size)
    for bits in range(2 ** len(every)):
        yield [tie for at, tie in enumerate(every) if bits >> at & 1]


def every_pairing(ties):
    """Every pairing made of those ties."""
    if not ties:
        yield []
        return
    first, *others = ties
    yield from every_pairing(others)
    apart = [tie for tie in others if not set(tie) & set(first)]
    for pairs in every_pairing(apart):
        yield [first] + pairs


def most_by_trying(ties):
    """By trying all: the number of pairs of a greatest pairing."""
    return max(len(pairs) for pairs in every_pairing(ties))


def greatest_by_trying(ties):
    """By trying all: every greatest pairing, each rising."""
    every = [sorted(pairs) for pairs in every_pairing(ties)]
    many = max(len(pairs) for pairs in every)
    return [pairs for pairs in every if len(pairs) == many]


def places_in(pairs):
    """The places that are in these pairs."""
    return {place for pair in pairs for place in pair}


PRIME = 2 ** 61 - 1


def most_by_rank(size, ties):
    """By the rank of a skew matrix with chance entries (Tutte): the pairs of a greatest pairing.

    It could be too small with a chance of less than one to 10 ** 15; the
    entries are the same in every run.
    """
    chance = random.Random(size * 1000 + len(ties))
    rows = [[0] * size for _ in range(size)]
    for one, other in ties:
        worth = chance.randrange(1, PRIME)
        rows[one][other] = worth
        rows[other][one] = PRIME - worth
    rank = 0
    for column in range(size):
        pivot = next((at for at in range(rank, size) if rows[at][column]), None)
        if pivot is None:
            continue
        rows[rank], rows[pivot] = rows[pivot], rows[rank]
        inverse = pow(rows[rank][column], PRIME - 2, PRIME)
        for at in range(rank + 1, size):
            times = rows[at][column] * inverse % PRIME
            if times:
                rows[at] = [(a - times * b) % PRIME for a, b in zip(rows[at], rows[rank])]
        rank += 1
    return rank // 2


def is_pairing(ties, pairs):
    """Whether this is a rising pairing made of those ties."""
    places = [place for pair in pairs for place in pair]
    told = isinstance(pairs, list) and all(pair in ties for pair in pairs)
    return told and len(set(places)) == len(places) and pairs == sorted(pairs)


def is_way(size, ties, pairs, way):
    """Whether this is a way for the pairing, word by word as in point 5."""
    if not isinstance(way, list) or len(way) < 2 or len(set(way)) != len(way):
        return False
    if any(type(place) is not int or place not in range(size) for place in way):
        return False
    paired = {place for pair in pairs for place in pair}
    if way[0] in paired or way[-1] in paired:
        return False
    steps = [tuple(sorted(step)) for step in zip(way, way[1:])]
    if any(step not in ties for step in steps):
        return False
    by_turns = [at % 2 == 1 for at in range(len(steps))]
    return [step in pairs for step in steps] == by_turns and len(steps) % 2 == 1


def ring(places):
    """The ties of a ring of those places."""
    return [tuple(sorted((place, places[at - 1]))) for at, place in enumerate(places)]


def line(places):
    """The ties of a line of those places."""
    return [tuple(sorted(step)) for step in zip(places, places[1:])]


def odd_rings_in_a_row(length, many):
    """Rings of that length, each tied to the ring before it by one tie."""
    ties = []
    for number in range(many):
        first = number * length
        ties += ring(list(range(first, first + length)))
        if number:
            ties.append((first - 1, first))
    return length * many, sorted(ties)


def rings_within_rings():
    """A ring of five of which each place is a ring of three, with a tail at one of them; 17 places."""
    ties = []
    for number in range(5):
        ties += ring([3 * number, 3 * number + 1, 3 * number + 2])
        ties.append(tuple(sorted((3 * number + 1, (3 * number + 3) % 15))))
    return 17, sorted(ties + [(2, 15), (15, 16)])


def ring_with_tails(length, tail):
    """A ring with a line of that length at each of its places."""
    ties = ring(list(range(length)))
    size = length
    for place in range(length):
        ties += line([place] + list(range(size, size + tail)))
        size += tail
    return size, sorted(ties)


def petals(many):
    """Rings of three, all with place nought."""
    ties = []
    for number in range(many):
        ties += ring([0, 2 * number + 1, 2 * number + 2])
    return 2 * many + 1, sorted(ties)


def shuffled(chance, size, ties):
    """The ties of the same net with its places told by other numbers."""
    names = list(range(size))
    chance.shuffle(names)
    return sorted(tuple(sorted((names[one], names[other]))) for one, other in ties)


def shaped():
    """Larger nets of known shapes: their size and ties."""
    every = [(40, []), (40, all_ties(40)), (39, all_ties(39)), (1, []), (2, []), (2, [(0, 1)])]
    every += [odd_rings_in_a_row(3, 13), odd_rings_in_a_row(5, 8), odd_rings_in_a_row(7, 5)]
    every += [(length, sorted(ring(list(range(length))))) for length in (3, 5, 7, 39)]
    every += [(40, sorted(ring(list(range(40))))), (40, line(list(range(40)))), (39, line(list(range(39))))]
    every += [ring_with_tails(length, tail) for length in (3, 5, 7) for tail in (1, 2, 3, 4)]
    every += [petals(many) for many in (2, 5, 19)] + [rings_within_rings()]
    # A star of rings: place nought is tied to one place of each of thirteen rings of three.
    star = [(0, 3 * number + 1) for number in range(13)]
    for number in range(13):
        star += ring([3 * number + 1, 3 * number + 2, 3 * number + 3])
    every.append((40, sorted(star)))
    # Two sides of unlike size: no more pairs than the lesser side has places.
    every.append((40, [(one, other) for one in range(13) for other in range(13, 40)]))
    return every


def larger_nets():
    """Shaped nets, the same under other numbers, and chance nets of every size up to 40."""
    chance = random.Random(411)
    every = shaped()
    every += [(size, shuffled(chance, size, ties)) for _ in range(3) for size, ties in shaped()]
    for size in range(1, 41):
        for part in (3, 6, 9, 15, 40):
            every.append((size, some_ties(chance, size, part)))
    return every


def dense_nets():
    """Nets that have nearly all the ties that there can be, or all but those of a few places."""
    chance = random.Random(88)
    every = [(size, some_ties(chance, size, part)) for size in (11, 20, 39, 40) for part in (80, 95, 98)]
    # All ties but those within a set of places: with more than half of them in it, many stay alone.
    for size, many in ((10, 7), (21, 11), (39, 25), (40, 20), (40, 21), (40, 36)):
        every.append((size, [(one, other) for one, other in all_ties(size) if one < size - many]))
    return every


def fenced_net(many, lengths):
    """A net with a known fence, its first places: so many places that are tied to all others.

    Behind them stand wholes of these lengths, each with all its ties and none
    to another whole. There must be more wholes of odd length than places in the fence.
    """
    size = many + sum(lengths)
    ties = [(one, other) for one, other in all_ties(size) if one < many]
    first = many
    for length in lengths:
        ties += combinations(range(first, first + length), 2)
        first += length
    return size, sorted(ties)


def fenced_nets():
    """Rows of a net, its fence, and how many places a greatest pairing of it leaves alone."""
    shapes = [(1, [1, 1]), (1, [3, 1, 5]), (1, [2, 1, 4, 1]), (2, [3, 3, 3]), (2, [6, 1, 3, 8, 5, 7, 2]),
              (3, [1, 1, 1, 1, 5]), (4, [7, 5, 3, 5, 1, 1, 1, 1, 9]), (1, [13, 13, 13]), (5, [5] * 7),
              (6, [1] * 34), (9, [3] * 10 + [1]), (10, [1] * 11 + [18])]
    every = []
    for many, lengths in shapes:
        odd = len([length for length in lengths if length % 2])
        every.append((fenced_net(many, lengths), list(range(many)), odd - many))
    return every


def two_sided(chance, size, part):
    """Ties of a net with two sides taken by chance, each there by that part of a hundred."""
    side = [chance.randrange(2) for _ in range(size)]
    return [(one, other) for one, other in some_ties(chance, size, part) if side[one] != side[other]]


def small_nets(sizes, many):
    """Chance nets of these sizes, so many of each."""
    chance = random.Random(57)
    return [(size, some_ties(chance, size, chance.choice((15, 30, 45, 60, 90))))
            for size in sizes for _ in range(many)]


def net_of(row):
    """The net of a row of size and ties."""
    size, ties = row
    return Net(size, ties)


def refusal(call, *given):
    """The class of the error with which the call refuses what it is given; None where it tells something."""
    try:
        call(*given)
    except Exception as error:
        return type(error)
    return None
