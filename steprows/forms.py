"""Forms: values of words that lay local shares."""

from steprows.checks import (
    check_length, check_right, check_web_crowd, is_positive_row, ratio_rows, square_from, upper_pairs,
)
from steprows.crowds import check_word, exchanged, word_with, words_of
from steprows.errors import BadTable, Unfit
from steprows.ratios import Ratio, product_over, whole
from steprows.rounds import check_kept
from steprows.shapes import tree_ties
from steprows.shares import Shares
from steprows.tables import RatioTable


def step_ratio(form, u, v, a, b):
    """By how much the exchange of kind a at u and kind b at v multiplies the value of a word."""
    if a == b:
        return Ratio(1)
    word = word_with(form.crowd, (u, v), (a, b))
    return form.value(exchanged(word, u, v)).over(form.value(word))


def step_table(form, u, v):
    """The table of step_ratio for all kinds."""
    span = range(form.crowd.kinds)
    return [[step_ratio(form, u, v, a, b) for b in span] for a in span]


def read_spots(crowd, spots):
    """The spots as a tuple of tuples of Ratios."""
    check_length(spots, crowd.size)
    check_right([is_positive_row(row, crowd.kinds) for row in spots])
    return ratio_rows(spots)


def read_orders(crowd, orders):
    """The orders as a tuple of tuples of Ratios."""
    check_length(orders, crowd.kinds)
    if not all([is_positive_row(row, crowd.kinds) for row in orders]):
        raise BadTable(-1)
    return ratio_rows(orders)


def spots_value(spots, word):
    """The product of the spots of the word's kinds."""
    return product_over([row[kind] for row, kind in zip(spots, word)])


class Form:
    """The plain form, which gives each word the value 1."""

    def __init__(self, web, crowd):
        check_web_crowd(web, crowd)
        self.web = web
        self.crowd = crowd

    def weight(self, word):
        """The value of the word, which is checked."""
        return self.value(check_word(self.crowd, word))

    def laid(self):
        """The Shares with chances in proportion to the values."""
        return Shares(self.crowd, whole([self.value(word) for word in words_of(self.crowd)]))

    def table(self):
        """The RatioTable of the shares that the form lays."""
        return RatioTable(self.web, self.crowd.kinds, [step_table(self, u, v) for u, v in self.web.ties])

    def value(self, word):
        """The value of the word, which is not checked."""
        return Ratio(1)


class ProductForm(Form):
    """A positive ratio for each place and kind; the value is their product."""

    def __init__(self, web, crowd, spots):
        Form.__init__(self, web, crowd)
        self.spots = read_spots(crowd, spots)

    def value(self, word):
        """The value of the word, which is not checked."""
        return spots_value(self.spots, word)


class OrderForm(Form):
    """A product form, and a positive ratio for each two kinds that stand in order on the line."""

    def __init__(self, web, crowd, spots, orders):
        Form.__init__(self, web, crowd)
        if web.along is None:
            raise Unfit()
        self.spots = read_spots(crowd, spots)
        self.orders = read_orders(crowd, orders)

    def value(self, word):
        """The value of the word, which is not checked."""
        row = [word[place] for place in self.web.along]
        pairs = [self.orders[row[i]][row[j]] for i, j in upper_pairs(len(row))]
        return spots_value(self.spots, word) * product_over(pairs)


def product_form(web, crowd, steps):
    """The ProductForm with f_0(a) = 1 and f_v(a) = f_u(a) t_uv(a,0).

    steps holds for each tie u < v of the spanning tree the row of t_uv(a,0).
    """
    spots = {0: [Ratio(1)] * crowd.kinds}
    while len(spots) < web.size:
        for u, v in tree_ties(web):
            if u in spots and v not in spots:
                spots[v] = [spot * step for spot, step in zip(spots[u], steps[(u, v)])]
            if v in spots and u not in spots:
                spots[u] = [spot.over(step) for spot, step in zip(spots[v], steps[(u, v)])]
    return ProductForm(web, crowd, [spots[place] for place in range(web.size)])


def order_form(web, crowd, upper, steps):
    """The OrderForm with the entries t(a,b), a < b, at p_0, p_1 of the line in upper.

    steps holds the row of t(a,0) at p_i, p_(i+1) for each i.
    """
    orders = square_from(crowd.kinds, [1] * len(upper), 1, upper)
    spots = {web.along[0]: [Ratio(1)] * crowd.kinds}
    for number, step in enumerate(steps):
        before = spots[web.along[number]]
        spots[web.along[number + 1]] = [
            spot * more.over(less) for spot, more, less in zip(before, step, steps[0])
        ]
    return OrderForm(web, crowd, [spots[place] for place in range(web.size)], orders)


def has_product_form(web, crowd):
    """True if all local shares are laid by product forms."""
    return web.along is None or crowd.kinds == 2


def row_to_first(table, u, v):
    """The row of t_uv(a,0)."""
    return [table.at(u, v, a, 0) for a in range(table.kinds)]


def form_of(table, crowd):
    """The told form of a kept table."""
    check_kept(table, crowd)
    web = table.web
    if has_product_form(web, crowd):
        return product_form(web, crowd, {(u, v): row_to_first(table, u, v) for u, v in tree_ties(web)})
    line = web.along
    upper = [table.at(line[0], line[1], a, b) for a, b in upper_pairs(crowd.kinds)]
    return order_form(web, crowd, upper, [row_to_first(table, u, v) for u, v in zip(line, line[1:])])


def rescaled(form, by_place, by_kind):
    """The form with the spots multiplied by a factor for each place and one for each kind."""
    if not is_positive_row(by_place, form.crowd.size):
        raise BadTable(0)
    if not is_positive_row(by_kind, form.crowd.kinds):
        raise BadTable(1)
    spots = [
        [spot * place_factor * kind_factor for spot, kind_factor in zip(row, by_kind)]
        for row, place_factor in zip(form.spots, by_place)
    ]
    if isinstance(form, OrderForm):
        return OrderForm(form.web, form.crowd, spots, form.orders)
    return ProductForm(form.web, form.crowd, spots)
