"""Listings: runs as lines of text, and how they are read."""

from steprows.checks import is_row
from steprows.errors import BadNumber, BadTable, BadText, BadWeb
from steprows.ratios import Ratio, is_int
from steprows.runs import Run
from steprows.webs import Web

DIGITS = "0123456789"


def unlike_kinds(kinds):
    """The pairs of unlike kinds in order."""
    return [(a, b) for a in range(kinds) for b in range(kinds) if a != b]


def step_mark(a, b, signs):
    """How a listing names the two kinds of a rate."""
    return f"{a}{signs}{b}"


def tie_line(tie, table, width, signs):
    """The line of a tie and its rates."""
    u, v = tie
    entries = [f"{step_mark(a, b, signs)} {table[a][b].told()}" for a, b in unlike_kinds(len(table))]
    return " ".join([f"{u}-{v}"] + [entry.rjust(width) for entry in entries])


def listing(run, *, width=8, signs="->"):
    """The run as a list of strings."""
    if not is_int(width) or width < 1 or width > 20:
        raise BadNumber("width")
    first = f"web {run.web.size} ties {len(run.web.ties)} kinds {run.kinds}"
    return [first] + [tie_line(tie, table, width, signs) for tie, table in zip(run.web.ties, run.rates)]


def words_by_blanks(line):
    """What stands between the blanks of a line; None if it is no string."""
    if not isinstance(line, str):
        return None
    return [word for word in line.split(" ") if word != ""]


def read_number(word):
    """The integer of at most 1000 digits, without leading zeros; None for any other word."""
    if len(word) < 1 or len(word) > 1000 or any([sign not in DIGITS for sign in word]):
        return None
    if len(word) > 1 and word[0] == "0":
        return None
    return int(word)


def read_ratio(word):
    """The Ratio that is told by the word; None if there is none."""
    top_word, bar, bottom_word = word.removeprefix("-").partition("/")
    top = read_number(top_word)
    bottom = read_number(bottom_word) if bar == "/" else 1
    if top is None or bottom is None or bottom == 0:
        return None
    if word.startswith("-"):
        top = -top
    number = Ratio(top, bottom)
    # A fraction that is not in lowest terms is told in another way.
    if number.told() != word:
        return None
    return number


def read_tie(word):
    """The two numbers of a tie; None for any other word."""
    first, bar, second = word.partition("-")
    u = read_number(first)
    v = read_number(second)
    if bar != "-" or u is None or v is None:
        return None
    return (u, v)


def read_first(line):
    """The numbers of places, ties and kinds; None for a wrong line."""
    words = words_by_blanks(line)
    if words is None or words[::2] != ["web", "ties", "kinds"] or len(words) != 6:
        return None
    numbers = [read_number(word) for word in words[1::2]]
    if any([number is None for number in numbers]):
        return None
    places, ties, kinds = numbers
    if places < 3 or places > 8 or kinds < 2 or kinds > 6:
        return None
    return (places, ties, kinds)


def read_rates(words, kinds, signs):
    """The table of the rates that these words tell; None if some of them are wrong."""
    pairs = unlike_kinds(kinds)
    if words[::2] != [step_mark(a, b, signs) for a, b in pairs]:
        return None
    rates = [read_ratio(word) for word in words[1::2]]
    if len(rates) != len(pairs) or any([rate is None for rate in rates]):
        return None
    table = [[Ratio(0)] * kinds for kind in range(kinds)]
    for (a, b), rate in zip(pairs, rates):
        table[a][b] = rate
    return table


def read_line(line, kinds, signs):
    """The tie and the table of rates of a line; None for a wrong line."""
    words = words_by_blanks(line)
    if not words:
        return None
    tie = read_tie(words[0])
    table = read_rates(words[1:], kinds, signs)
    if tie is None or table is None:
        return None
    return (tie, table)


def read_lines(lines, kinds, signs):
    """The ties and the tables of rates of all lines but the first one."""
    found = []
    for place, line in enumerate(lines[1:]):
        read = read_line(line, kinds, signs)
        if read is None:
            raise BadText(place + 2)
        found.append(read)
    return found


def check_many_lines(lines, ties):
    """Raises BadText unless there is one line more than ties."""
    if len(lines) < ties + 1:
        raise BadText(len(lines) + 1)
    if len(lines) > ties + 1:
        raise BadText(ties + 2)


def read_web(size, ties):
    """The Web, or BadText for the first line that is wrong as a tie."""
    try:
        return Web(size, ties)
    except BadWeb as error:
        # The line of a tie is two after its place; -2, for places that
        # cannot be reached, is no tie's.
        raise BadText(max(error.place + 2, 1)) from error


def read_listing(lines, *, signs="->"):
    """The Run of a listing."""
    first = read_first(lines[0]) if is_row(lines) and len(lines) > 0 else None
    if first is None:
        raise BadText(1)
    places, ties, kinds = first
    check_many_lines(lines, ties)
    read = read_lines(lines, kinds, signs)
    web = read_web(places, [tie for tie, table in read])
    try:
        return Run(web, kinds, [table for tie, table in read])
    except BadTable as error:
        raise BadText(error.place + 2) from error
