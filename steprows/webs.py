"""Webs: places and their ties."""

from steprows.checks import check_places, is_below, is_row, is_row_of
from steprows.errors import BadNumber, BadWeb, NoTie
from steprows.ratios import is_int


def check_size(size):
    """Raises BadNumber unless a web may have so many places."""
    if not is_int(size) or size < 3 or size > Web.MOST:
        raise BadNumber("size")


def is_tie(size, tie):
    """True for a list or tuple of two places u < v."""
    if not is_row_of(tie, 2):
        return False
    u, v = tie
    return is_below(u, size) and is_below(v, size) and u < v


def check_ties(size, ties):
    """The ties as a tuple of tuples."""
    if not is_row(ties):
        raise BadWeb(-1)
    found = []
    for place, tie in enumerate(ties):
        if not is_tie(size, tie):
            raise BadWeb(place)
        if found and tuple(tie) <= found[-1]:
            raise BadWeb(place)
        found.append(tuple(tie))
    # All labels are 0 just where every place can be reached from place 0.
    if any(labels_of(size, found)):
        raise BadWeb(-2)
    return tuple(found)


def merged(labels, u, v):
    """The labels when the parts of the places u and v are one."""
    low = min(labels[u], labels[v])
    high = max(labels[u], labels[v])
    return [low if label == high else label for label in labels]


def labels_of(size, ties):
    """For each place the least place of the part into which the ties join it."""
    labels = list(range(size))
    for u, v in ties:
        labels = merged(labels, u, v)
    return labels


def near_over(ties, place):
    """The places to which the ties lead from the place, ascending."""
    return tuple(sorted([u + v - place for u, v in ties if place in (u, v)]))


def line_of(size, ties):
    """The line of a row or a ring; None where a place has three ties."""
    many = [len(near_over(ties, place)) for place in range(size)]
    if max(many) > 2:
        return None
    line = [0]
    if 1 in many:
        line = [many.index(1)]
    while len(line) < size:
        line.append(min([place for place in near_over(ties, line[-1]) if place not in line]))
    return tuple(line)


class Web:
    """Places 0, 1, .. and ties, by which every place can be reached."""

    MOST = 8

    def __init__(self, size, ties):
        check_size(size)
        self.size = size
        self.ties = check_ties(size, ties)
        self._numbers = {tie: number for number, tie in enumerate(self.ties)}
        self._line = line_of(size, self.ties)

    @classmethod
    def row(cls, size):
        """The places 0, 1, .. in a row."""
        check_size(size)
        return cls(size, [(place, place + 1) for place in range(size - 1)])

    @classmethod
    def ring(cls, size):
        """The places 0, 1, .. in a row that is closed."""
        check_size(size)
        return cls(size, sorted([(0, size - 1)] + [(place, place + 1) for place in range(size - 1)]))

    @classmethod
    def star(cls, size):
        """Place 0 tied to all others."""
        check_size(size)
        return cls(size, [(0, place) for place in range(1, size)])

    @classmethod
    def full(cls, size):
        """Every two places tied."""
        check_size(size)
        return cls(size, [(u, v) for u in range(size) for v in range(u + 1, size)])

    def __eq__(self, other):
        return isinstance(other, Web) and self.size == other.size and self.ties == other.ties

    def __len__(self):
        return len(self.ties)

    def __iter__(self):
        return iter(self.ties)

    def __contains__(self, x):
        u, v = x
        return (min(u, v), max(u, v)) in self._numbers

    def __add__(self, other):
        u, v = other
        check_places(self.size, (u, v))
        tie = (min(u, v), max(u, v))
        if tie in self._numbers:
            raise BadWeb(self._numbers[tie])
        return Web(self.size, sorted(list(self.ties) + [tie]))

    def __sub__(self, other):
        u, v = other
        number = self.number_of(u, v)
        return Web(self.size, self.ties[:number] + self.ties[number + 1:])

    @property
    def along(self):
        """The line of a row or a ring; None for a threefold web."""
        return self._line

    def number_of(self, u, v):
        """The number of the tie of two places, in order."""
        check_places(self.size, (u, v))
        tie = (min(u, v), max(u, v))
        if tie not in self._numbers:
            raise NoTie(u, v)
        return self._numbers[tie]

    def near(self, place):
        """The places near the place, ascending."""
        check_places(self.size, (place,))
        return near_over(self.ties, place)
