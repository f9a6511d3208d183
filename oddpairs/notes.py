"""Nets written as texts, and texts read as nets."""

from oddpairs.errors import BadNet
from oddpairs.nets import Net

FIGURES = "0123456789"
MOST_FIGURES = 2


def shown(net):
    """Tell the text of the net."""
    words = [f" {one}-{other}" for one, other in net.ties()]
    return f"{net.size}:" + "".join(words)


def number_in(word):
    """Tell the number that the word writes, or None where it is none of a net."""
    # int() takes signs, blanks and figures of other scripts, too, and refuses
    # very long words; neither may come to it.
    if len(word) == 0 or len(word) > MOST_FIGURES:
        return None
    for sign in word:
        if sign not in FIGURES:
            return None
    return int(word)


def tie_in(word):
    """Tell the two numbers that the word writes, None for what is no number."""
    one, _, other = word.partition("-")
    return (number_in(one), number_in(other))


def read(line):
    """Tell the net that the text writes; refuse with BadNet what is no text of a net."""
    if not isinstance(line, str):
        raise BadNet("this is no text")
    size, _, rest = line.partition(":")
    net = Net(number_in(size), [tie_in(word) for word in rest.split(" ")[1:]])
    # Each net has one text only. Whatever else reads as this net is refused here.
    if shown(net) != line:
        raise BadNet("this text is not written as nets are")
    return net
