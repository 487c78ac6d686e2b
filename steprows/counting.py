"""How many lines have a word, and the chances that come of it."""

from steprows.checks import is_below, picks
from steprows.crowds import Crowd, check_word, words_of
from steprows.errors import BadKind, BadRow, Unfit
from steprows.lines import Lines, all_lines, check_lined
from steprows.shares import Shares


def line_counts(crowd):
    """For each word, in order, how many lines have it."""
    check_lined(crowd)
    words = words_of(crowd)
    counts = {row: 0 for row in words}
    for lines in all_lines(crowd):
        word = lines.read()
        counts[word] = counts[word] + 1
    return [counts[row] for row in words]


def line_shares(crowd):
    """The Shares with these counts as weights."""
    return Shares(crowd, line_counts(crowd))


def count_of(crowd, word):
    """How many lines have the word."""
    check_lined(crowd)
    here = check_word(crowd, word)
    return len([lines for lines in all_lines(crowd) if lines.read() == here])


def row_out(lines, r):
    """The Lines without row r, of the crowd in which the kinds r and r + 1 are one."""
    if lines.crowd.kinds == 2:
        raise Unfit()
    if not is_below(r, len(lines.rows)):
        raise BadRow(r)
    counts = lines.crowd.counts
    fewer = Crowd(counts[:r] + (counts[r] + counts[r + 1],) + counts[r + 2:])
    return Lines(fewer, lines.rows[:r] + lines.rows[r + 1:])


def cut_counts(crowd, c):
    """For each set of so many places as walkers up to c how many lines have a word with these just there."""
    sizes = Lines.sizes(crowd)
    if not is_below(c, len(sizes)):
        raise BadKind(c)
    counts = {row: 0 for row in picks(crowd.size, sizes[c])}
    for lines in all_lines(crowd):
        word = lines.read()
        places = tuple([place for place in range(crowd.size) if word[place] <= c])
        counts[places] = counts[places] + 1
    return [(row, counts[row]) for row in counts]
