"""Classes of kinds on a ring: level to each other, and each one standing by itself."""

from steprows.checks import (
    check_kinds, check_length, check_place_row, check_right, is_below, is_positive_row, is_ratio_row, ratio_row,
    ratio_rows, square_from, upper_pairs,
)
from steprows.crowds import check_word
from steprows.errors import BadNumber, BadTable, NotRing, Unfit
from steprows.lots import check_lot, check_split, lot_numbers
from steprows.ratios import Ratio, product_over
from steprows.runs import Run
from steprows.shapes import shape
from steprows.tables import RatioTable, are_entries


def read_leans(leans, many):
    """The leans of so many classes as a tuple of Ratios, the first one 0."""
    if not is_ratio_row(leans, many):
        raise BadNumber("leans")
    row = ratio_row(leans)
    if any([row[i] == row[j] for i, j in upper_pairs(many)]):
        raise BadNumber("leans")
    return tuple([lean - row[0] for lean in row])


def read_ratios(crowd, numbers, ratios):
    """The ratios inside the classes as a tuple of tuples of Ratios; numbers has the class of each kind."""
    if not are_entries(ratios, crowd.kinds):
        raise BadTable(-1)
    if any([ratios[a][b] != 1 for a, b in upper_pairs(crowd.kinds) if numbers[a] != numbers[b]]):
        raise BadTable(-1)
    rows = ratio_rows(ratios)
    # The other classes add nothing to a product, as their ratios are 1.
    check_right([
        product_over([entry.to_power(count) for entry, count in zip(row, crowd.counts)]) == 1 for row in rows
    ])
    return rows


class Classes:
    """A crowd, a parting of its kinds into classes, a number for each class, and ratios inside the classes."""

    def __init__(self, crowd, parting, leans, ratios):
        self.crowd = crowd
        self.parting = check_split(crowd.kinds, parting)
        self.leans = read_leans(leans, len(self.parting))
        self._numbers = lot_numbers(self.parting)
        self.ratios = read_ratios(crowd, self._numbers, ratios)

    def __eq__(self, other):
        return (
            isinstance(other, Classes) and self.crowd == other.crowd and self.parting == other.parting
            and self.leans == other.leans and self.ratios == other.ratios
        )

    def class_of(self, a):
        """The number of the class of kind a."""
        check_kinds(self.crowd.kinds, (a,))
        return self._numbers[a]

    def value(self, word, line):
        """The product of the ratios of the kinds that stand in falling order along the line."""
        here = check_word(self.crowd, word)
        check_place_row(self.crowd.size, line, self.crowd.size)
        row = [here[place] for place in line]
        return product_over([self.ratios[row[j]][row[i]] for i, j in upper_pairs(len(row)) if row[i] > row[j]])

    def only(self, lot, word):
        """The kinds of class number lot in the word, in the order of their places."""
        if not is_below(lot, len(self.parting)):
            raise BadNumber("lot")
        return tuple([kind for kind in check_word(self.crowd, word) if kind in self.parting[lot]])


def ring_steps(web):
    """The steps (p, r) of a ring along its line, the last one back to the first place."""
    if shape(web) != "ring":
        raise NotRing()
    return list(zip(web.along, web.along[1:] + web.along[:1]))


def tables_by_steps(web, tables):
    """For each tie, in order, the table told for its step, of kinds at p and at r, read from u < v."""
    found = {}
    for (p, r), table in zip(ring_steps(web), tables):
        if p < r:
            found[(p, r)] = table
        else:
            found[(r, p)] = [list(column) for column in zip(*table)]
    return [found[tie] for tie in web.ties]


def check_places_of(web, classes):
    """Raises Unfit unless there are as many places as walkers."""
    if web.size != classes.crowd.size:
        raise Unfit()


def lean_between(classes, a, b):
    """The number of the class of a less that of the class of b."""
    return classes.leans[classes.class_of(a)] - classes.leans[classes.class_of(b)]


def over_zero(number):
    """The number if it is above 0, else 0."""
    if number.top > 0:
        return number
    return Ratio(0)


def step_table(classes, row):
    """The rates at a step with these speeds, kinds at its first place first."""
    upper = []
    lower = []
    for (a, b), speed in zip(upper_pairs(classes.crowd.kinds), row):
        lean = lean_between(classes, a, b)
        # Between two classes the ratio is 1, inside a class the lean is 0.
        upper.append(speed * classes.ratios[a][b] + over_zero(-lean))
        lower.append(over_zero(lean) + speed)
    return square_from(classes.crowd.kinds, upper, 0, lower)


def classes_run(web, classes, speeds):
    """The full Run on the ring that has these classes and speeds."""
    check_places_of(web, classes)
    kinds = classes.crowd.kinds
    check_length(speeds, web.size)
    check_right([is_positive_row(row, len(upper_pairs(kinds))) for row in speeds])
    tables = [step_table(classes, row) for row in ratio_rows(speeds)]
    return Run(web, kinds, tables_by_steps(web, tables))


def class_table(web, classes):
    """The RatioTable with the ratios of the classes at each step."""
    check_places_of(web, classes)
    tables = [classes.ratios] * web.size
    return RatioTable(web, classes.crowd.kinds, tables_by_steps(web, tables))


def balanced_ratios(crowd, lot):
    """How many ratios inside a class of these kinds could be chosen freely."""
    kinds = len(check_lot(crowd.kinds, lot))
    return (kinds - 1) * (kinds - 2) // 2
