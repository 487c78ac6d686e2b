"""Checks and readings of arguments that several modules share."""

from steprows.errors import BadKind, BadNumber, BadPlace, BadTable, BadWord, Unfit
from steprows.ratios import is_int, is_ratio, ratio_of


def is_row(thing):
    """True for a list or tuple."""
    return isinstance(thing, (list, tuple))


def is_row_of(thing, length):
    """True for a list or tuple of that length."""
    return is_row(thing) and len(thing) == length


def is_below(thing, bound):
    """True for an integer from 0 to bound - 1."""
    return is_int(thing) and 0 <= thing < bound


def check_places(size, places):
    """Raises BadPlace for the first one that is no place or repeats one."""
    for number, place in enumerate(places):
        if not is_below(place, size) or place in places[:number]:
            raise BadPlace(place)


def check_kinds(kinds, row):
    """Raises BadKind for the first one that is no kind."""
    for kind in row:
        if not is_below(kind, kinds):
            raise BadKind(kind)


def check_place_row(size, places, length):
    """Raises BadPlace unless places is a list or tuple of so many different places."""
    if not is_row_of(places, length):
        raise BadPlace(-1)
    check_places(size, places)


def check_unlike_kinds(kinds, row, length):
    """Raises BadKind unless row is a list or tuple of so many different kinds."""
    if not is_row_of(row, length):
        raise BadKind(-1)
    for number, kind in enumerate(row):
        if not is_below(kind, kinds) or kind in row[:number]:
            raise BadKind(kind)


def check_many_kinds(kinds):
    """Raises BadNumber unless runs and tables may have so many kinds."""
    if not is_int(kinds) or kinds < 2 or kinds > 6:
        raise BadNumber("kinds")


def check_free_word(size, word, kinds=6):
    """The word of these kinds with any counts as a tuple."""
    if not is_row_of(word, size):
        raise BadWord(-1)
    for place, kind in enumerate(word):
        if not is_below(kind, kinds):
            raise BadWord(place)
    return tuple(word)


def check_web_crowd(web, crowd):
    """Raises Unfit unless the web and the crowd fit."""
    if web.size != crowd.size or crowd.kinds < 2:
        raise Unfit()


def check_crowd(holder, crowd):
    """Raises Unfit unless the run or table and the crowd fit."""
    if holder.web.size != crowd.size or holder.kinds != crowd.kinds:
        raise Unfit()


def check_measure(first, second):
    """Raises Unfit unless two crowds, pair sums or leans have the same size and kinds."""
    if first.size != second.size or first.kinds != second.kinds:
        raise Unfit()


def are_alike(first, second):
    """True if two runs or tables have the same web and the same kinds."""
    return first.web == second.web and first.kinds == second.kinds


def check_alike(first, second):
    """Raises Unfit unless two runs or tables have the same web and kinds."""
    if not are_alike(first, second):
        raise Unfit()


def check_length(rows, length):
    """Raises BadTable(-1) unless rows is a list or tuple of that length."""
    if not is_row_of(rows, length):
        raise BadTable(-1)


def check_right(answers):
    """Raises BadTable for the first place whose answer is False."""
    for place, answer in enumerate(answers):
        if not answer:
            raise BadTable(place)


def is_positive(thing):
    """True for a positive ratio."""
    return is_ratio(thing) and ratio_of(thing).top > 0


def is_ratio_row(row, length):
    """True for a list or tuple of that many ratios."""
    return is_row_of(row, length) and all([is_ratio(thing) for thing in row])


def is_positive_row(row, length):
    """True for a list or tuple of that many positive ratios."""
    return is_row_of(row, length) and all([is_positive(thing) for thing in row])


def is_square(table, kinds):
    """True for a table of as many rows and columns of ratios as there are kinds."""
    return is_row_of(table, kinds) and all([is_ratio_row(row, kinds) for row in table])


def ratio_row(row):
    """The row as a tuple of Ratios."""
    return tuple([ratio_of(thing) for thing in row])


def ratio_rows(rows):
    """The rows as a tuple of tuples of Ratios."""
    return tuple([ratio_row(row) for row in rows])


def upper_pairs(many):
    """The pairs a < b of that many kinds, or places, in order."""
    return [(a, b) for a in range(many) for b in range(a + 1, many)]


def picks(many, length):
    """The ascending tuples of so many different numbers below many, in order."""
    rows = [()]
    for _ in range(length):
        rows = [row + (number,) for row in rows for number in range(many) if number > max(row, default=-1)]
    return rows


def upper_of(square):
    """The entries [a][b] of a table with a < b, pairs in order."""
    return tuple([square[a][b] for a, b in upper_pairs(len(square))])


def square_from(kinds, upper, middle, lower):
    """The table with the entries [a][b] of upper, [a][a] middle and [b][a] of lower, a < b."""
    square = [[middle] * kinds for kind in range(kinds)]
    for (a, b), high, low in zip(upper_pairs(kinds), upper, lower):
        square[a][b] = high
        square[b][a] = low
    return tuple([tuple(row) for row in square])


def read_uppers(web, kinds, uppers):
    """One tuple of positive Ratios for each tie, one of them for each pair a < b."""
    check_length(uppers, len(web.ties))
    length = len(upper_pairs(kinds))
    check_right([is_positive_row(row, length) for row in uppers])
    return ratio_rows(uppers)


def entry_at(holder, tables, places, kinds):
    """The entry for the kinds at the places, of a table on the ties of the holder's web."""
    u, v = places
    number = holder.web.number_of(u, v)
    check_kinds(holder.kinds, kinds)
    a, b = kinds
    if u > v:
        return tables[number][b][a]
    return tables[number][a][b]
