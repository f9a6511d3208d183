"""The errors by which the program refuses what it is handed."""


class NetError(ValueError):
    """Any refusal."""


class BadNet(NetError):
    """What is handed in makes no net."""


class NoPlace(NetError):
    """What is handed in is no place of the net."""


class BadPairs(NetError):
    """What is handed in is no pairing of the net."""


class BadWay(NetError):
    """What is handed in is no way for the pairing."""


class TieThere(NetError):
    """A tie is to be put where there is one."""


class NoTie(NetError):
    """A tie is to be cut where there is none."""


class OddRing(NetError):
    """The net has a ring of odd length, so it has no two sides."""
