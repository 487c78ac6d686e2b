"""Lines: rows of marks on a ring, and the words that they make."""

from math import comb

from steprows.checks import is_below, is_row_of, picks
from steprows.crowds import check_word
from steprows.cuts import two_rates
from steprows.errors import BadRow, TooMany, Unfit
from steprows.webs import Web


def check_lined(crowd):
    """Raises Unfit unless the crowd has at least two kinds and three places."""
    if crowd.kinds < 2 or crowd.size < 3:
        raise Unfit()


def is_marks(row, size, many):
    """True for a list or tuple of so many places in ascending order without repetition."""
    if not is_row_of(row, many) or not all([is_below(place, size) for place in row]):
        return False
    return all([place < after for place, after in zip(row, row[1:])])


def first_from(free, place):
    """The first one of the free marks, which ascend, from the place on round the ring."""
    later = [mark for mark in free if mark >= place]
    if later:
        return later[0]
    return free[0]


def word_below(word, marks, kind):
    """The word of one row more, with these marks, below rows whose word has the kinds 0 .. kind."""
    size = len(word)
    free = list(marks)
    fresh = [kind + 1] * size
    for walker in range(kind):
        for place in [start for start in range(size) if word[start] == walker]:
            mark = first_from(free, place)
            free.remove(mark)
            fresh[mark] = walker
    return [kind if place in free else fresh[place] for place in range(size)]


class Lines:
    """The marks in one row after the other, K_r of them in row r."""

    def __init__(self, crowd, rows):
        sizes = Lines.sizes(crowd)
        if not is_row_of(rows, len(sizes)):
            raise BadRow(-1)
        for r, many in enumerate(sizes):
            if not is_marks(rows[r], crowd.size, many):
                raise BadRow(r)
        self.crowd = crowd
        self.rows = tuple([tuple(row) for row in rows])

    @staticmethod
    def sizes(crowd):
        """How many marks each row has."""
        check_lined(crowd)
        return tuple([sum(crowd.counts[:r + 1]) for r in range(crowd.kinds - 1)])

    def __eq__(self, other):
        return isinstance(other, Lines) and self.crowd == other.crowd and self.rows == other.rows

    def read(self):
        """The word of the lines."""
        return self.row_word(len(self.rows) - 1)

    def row_word(self, r):
        """The word of the rows 0 .. r."""
        if not is_below(r, len(self.rows)):
            raise BadRow(r)
        word = [1] * self.crowd.size
        # Row 0 has no walkers above it: its marks stay free and hold kind 0.
        for number in range(r + 1):
            word = word_below(word, self.rows[number], number)
        return tuple(word)


def lines_many(crowd):
    """How many lines the crowd has."""
    many = 1
    for size in Lines.sizes(crowd):
        many = many * comb(crowd.size, size)
    return many


def all_lines(crowd):
    """All lines of the crowd in order."""
    many = lines_many(crowd)
    if many > 3000:
        raise TooMany(many)
    found = [()]
    for size in Lines.sizes(crowd):
        choices = picks(crowd.size, size)
        found = [rows + (row,) for rows in found for row in choices]
    return [Lines(crowd, rows) for rows in found]


def lines_for(crowd, word):
    """Lines that have the word: row r marks the places of the kinds up to r."""
    check_lined(crowd)
    here = check_word(crowd, word)
    return Lines(crowd, [
        [place for place in range(crowd.size) if here[place] <= r] for r in range(crowd.kinds - 1)
    ])


def one_way(crowd):
    """The one-way run: a greater kind at the place before changes places with a lesser one at rate 1."""
    check_lined(crowd)
    web = Web.ring(crowd.size)
    # At the tie that closes the ring the place before is the greater one.
    ahead = [1 if v - u > 1 else 0 for u, v in web.ties]
    return two_rates(web, crowd.kinds, ahead=ahead, behind=[1 - rate for rate in ahead])
