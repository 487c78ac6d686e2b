"""Bells: how a bell at a place changes words and lines on the one-way ring."""

from steprows.checks import check_free_word, check_places, is_row
from steprows.crowds import exchanged
from steprows.errors import BadPlace, BadWord, Unfit
from steprows.lines import Lines, check_lined


def place_before(size, place):
    """The place before the place on the ring."""
    return (place + size - 1) % size


def belled(word, place):
    """The word after a bell at the place."""
    if not is_row(word) or len(word) < 3 or len(word) > 8:
        raise BadWord(-1)
    here = check_free_word(len(word), word)
    check_places(len(here), (place,))
    before = place_before(len(here), place)
    if here[before] > here[place]:
        return exchanged(here, before, place)
    return here


def row_with(row, mark, fresh):
    """The row with one mark replaced by another one."""
    return tuple(sorted([fresh if place == mark else place for place in row]))


def rung(size, row, place):
    """The row after it rings at the place, and the place at which the row above rings."""
    if place not in row:
        return (row, (place + 1) % size)
    before = place_before(size, place)
    if before in row:
        return (row, place)
    return (row_with(row, place, before), place)


def unrung(size, row, place):
    """The row and the place at which it rings so that this row and this place come of it."""
    before = place_before(size, place)
    if before not in row:
        return (row, before)
    if place in row:
        return (row, place)
    return (row_with(row, before, place), place)


def check_pair(crowd, lines, place):
    """Raises Unfit if the lines have other counts; BadPlace."""
    if lines.crowd != crowd:
        raise Unfit()
    check_places(crowd.size, (place,))


class BellMap:
    """The map of lines and a place that follows a bell through the rows."""

    def __init__(self, crowd):
        check_lined(crowd)
        self.crowd = crowd

    def __call__(self, lines, place):
        """The lines and the place to which these are taken."""
        check_pair(self.crowd, lines, place)
        rows = []
        spot = place
        for row in lines.rows[::-1]:
            fresh, spot = rung(self.crowd.size, row, spot)
            rows.append(fresh)
        return (Lines(self.crowd, rows[::-1]), spot)

    def back(self, lines, place):
        """The lines and the place that are taken to these."""
        check_pair(self.crowd, lines, place)
        rows = []
        spot = place
        for row in lines.rows:
            fresh, spot = unrung(self.crowd.size, row, spot)
            rows.append(fresh)
        return (Lines(self.crowd, rows), spot)


def bell_ring(lines, place):
    """The lines and the place, then what the bell map takes them to, and so on, until they come back."""
    check_places(lines.crowd.size, (place,))
    bell_map = BellMap(lines.crowd)
    fresh = lines
    spot = place
    for _ in range(5000):
        yield (fresh, spot)
        fresh, spot = bell_map(fresh, spot)
        if fresh == lines and spot == place:
            return


def bells_row(lines, places):
    """The lines, then after each place in turn the lines to which the bell map takes the last ones."""
    if not is_row(places):
        raise BadPlace(-1)
    bell_map = BellMap(lines.crowd)
    found = [lines]
    for place in places:
        fresh, _ = bell_map(found[-1], place)
        found.append(fresh)
    return found
