"""Which sums over few places tell numbers that are given for the words."""

from steprows.checks import check_length, check_places, check_right, is_below, is_row, upper_pairs
from steprows.crowds import check_listed, words_of
from steprows.errors import BadNumber, BadPlace
from steprows.ratios import is_ratio, sum_over


def check_number(crowd, number):
    """Raises BadNumber unless number is an integer from 0 to the number of places."""
    if not is_below(number, crowd.size + 1):
        raise BadNumber("number")


def tells(crowd, number):
    """True if the sums for all choices of so many places tell all numbers on the words."""
    check_number(crowd, number)
    return crowd.size - max(crowd.counts) <= number


def place_sums(crowd, numbers, places):
    """For each row of kinds at the places, in order, the sum of the numbers of the words that have it there."""
    check_listed(crowd)
    check_length(numbers, crowd.many)
    check_right([is_ratio(number) for number in numbers])
    if not is_row(places):
        raise BadPlace(-1)
    check_places(crowd.size, places)
    found = {}
    for word, number in zip(words_of(crowd), numbers):
        found.setdefault(tuple([word[place] for place in places]), []).append(number)
    return [(row, sum_over(found[row])) for row in sorted(found)]


def columns_of(crowd):
    """The kinds in columns: column i has each kind that is counted more than i times."""
    return [
        [kind for kind, count in enumerate(crowd.counts) if count > number] for number in range(max(crowd.counts))
    ]


def order_sign(row, kinds):
    """1 or -1 by the order of the row if it has just these ascending kinds, else 0."""
    if sorted(row) != kinds:
        return 0
    sign = 1
    for i, j in upper_pairs(len(row)):
        if row[i] > row[j]:
            sign = -sign
    return sign


def columns_sign(word, columns):
    """The product of the signs of the word's parts at the places of the columns."""
    sign = 1
    start = 0
    for kinds in columns:
        end = start + len(kinds)
        sign = sign * order_sign(word[start:end], kinds)
        start = end
    return sign


def untold(crowd, number):
    """Integers for the words, not all 0, whose sums for so many places are all 0; None if there are none."""
    check_number(crowd, number)
    words = words_of(crowd)
    if tells(crowd, number):
        return None
    # So few places leave two places of some column free, and an exchange of
    # the unlike kinds there turns the sign.
    columns = columns_of(crowd)
    return tuple([columns_sign(word, columns) for word in words])
