"""[21], [22], [23], [26], [28]: forms and the local shares that they lay."""

import unittest
from fractions import Fraction
from itertools import combinations, permutations, product

from steprows.crowds import Crowd, exchanged, words_in, words_of
from steprows.forms import Form, OrderForm, ProductForm, form_of, rescaled
from steprows.ratios import Ratio
from steprows.rounds import is_kept
from steprows.shapes import shape
from steprows.shares import Shares, local_shares, table_in
from steprows.tables import RatioTable, product_of, table_of
from steprows.webs import Web
from tests.common import (
    BIG_CROWD, Numbers, all_ratios, chances_of, fraction, kept_table, renamed, share_chances, small_crowds,
    some_table, some_webs, told,
)


def some_form(web, crowd, order, seed=1):
    numbers = Numbers(seed)
    spots = [numbers.ratios(crowd.kinds) for _ in range(crowd.size)]
    if not order:
        return ProductForm(web, crowd, spots)
    return OrderForm(web, crowd, spots, [numbers.ratios(crowd.kinds) for _ in range(crowd.kinds)])


def some_forms(size, kinds=(2, 3, 4)):
    for web in some_webs(size):
        for crowd in small_crowds(size, kinds):
            yield some_form(web, crowd, False)
            if web.along is not None:
                yield some_form(web, crowd, True)


def value_of(form, word):
    """The value as [21] tells it."""
    value = Fraction(1)
    for place, kind in enumerate(word):
        value *= fraction(form.spots[place][kind])
    if isinstance(form, OrderForm):
        for p, q in combinations(form.web.along, 2):
            value *= fraction(form.orders[word[p]][word[q]])
    return value


class TestForms(unittest.TestCase):

    def test_the_plain_form(self):
        for web in some_webs(4):
            form = Form(web, Crowd((2, 1, 1)))
            self.assertEqual((form.web, form.crowd), (web, Crowd((2, 1, 1))))
            self.assertEqual((form.value((0, 1, 2, 0)), form.weight([0, 1, 2, 0])), (1, 1))
            self.assertIsInstance(form.value((0, 1, 2, 0)), Ratio)
            self.assertEqual(form.laid(), Shares.even(Crowd((2, 1, 1))))
            self.assertEqual(form.table(), RatioTable.even(web, 3))
        self.assertEqual(Form(Web.ring(8), BIG_CROWD).table(), RatioTable.even(Web.ring(8), 6))

    def test_classes(self):
        self.assertTrue(issubclass(ProductForm, Form) and issubclass(OrderForm, Form))
        self.assertFalse(issubclass(OrderForm, ProductForm) or issubclass(ProductForm, OrderForm))
        for kind in (Form, ProductForm, OrderForm):
            self.assertIn("value", vars(kind))

    def test_attributes(self):
        form = OrderForm(Web.row(3), Crowd((2, 1)), ([1, 2], (3, 4), [Ratio(5, 2), 6]), [[1, 2], (3, 4)])
        self.assertEqual((form.web, form.crowd), (Web.row(3), Crowd((2, 1))))
        self.assertEqual((form.spots, form.orders), (((1, 2), (3, 4), (Ratio(5, 2), 6)), ((1, 2), (3, 4))))
        self.assertTrue(all_ratios(form.spots) and all_ratios(form.orders))
        spots = [[1, 2], [3, 4], [5, 6]]
        form = ProductForm(Web.full(3), Crowd((2, 1)), spots)
        spots[0][0] = 9
        self.assertEqual(form.spots, ((1, 2), (3, 4), (5, 6)))
        self.assertTrue(all_ratios(form.spots))

    def test_values_by_hand(self):
        web = Web(3, [(0, 1), (0, 2)])
        form = OrderForm(web, Crowd((2, 1)), [[2, 3], [5, 7], [11, 13]], [[17, 19], [23, 29]])
        # The line is 1, 0, 2; the kinds along it are 0, 1, 0.
        self.assertEqual(form.value((1, 0, 0)).told(), str(3 * 5 * 11 * 19 * 17 * 23))
        self.assertEqual(form.weight([0, 0, 1]).told(), str(2 * 5 * 13 * 17 * 19 * 19))
        form = ProductForm(web, Crowd((2, 1)), [[2, 3], [5, 7], [11, 13]])
        self.assertEqual(form.value((1, 0, 0)).told(), str(3 * 5 * 11))

    def test_values_shares_and_tables(self):
        for form in [form for size in (3, 4) for form in some_forms(size)] + list(some_forms(5, (3,))):
            words = words_of(form.crowd)
            values = {word: value_of(form, word) for word in words}
            self.assertEqual([fraction(form.value(word)) for word in words], list(values.values()))
            self.assertEqual([fraction(form.weight(list(word))) for word in words], list(values.values()))
            shares = form.laid()
            self.assertEqual(share_chances(shares), chances_of(values))
            table = form.table()
            self.assertEqual(table, table_in(form.web, shares))
            self.assertTrue(all_ratios(table.entries))
            self.assertIs(is_kept(table, form.crowd), True)

    def test_many_words(self):
        for web in (Web.row(8), Web.ring(8), Web.full(8)):
            for crowd in (BIG_CROWD, Crowd((4, 1, 1, 1, 1))):
                form = some_form(web, crowd, web.along is not None, seed=3)
                table = form.table()
                self.assertIs(is_kept(table, crowd), True)
                self.assertEqual(told(form.laid), ("TooMany", crowd.many))
                word = next(words_in(crowd))[::-1]
                self.assertEqual(fraction(form.weight(word)), value_of(form, word))
                for u, v in form.web.ties:
                    after = form.value(exchanged(word, u, v))
                    self.assertEqual(after, form.value(word) * table.at(u, v, word[u], word[v]))

    def test_wrong_words(self):
        for form in (Form(Web.row(3), Crowd((2, 1))), some_form(Web.row(3), Crowd((2, 1)), False),
                     some_form(Web.row(3), Crowd((2, 1)), True)):
            for word, place in [(None, -1), ((0, 1), -1), ((0, 2, "x"), 1), ((0, 1, 1), -2)]:
                self.assertEqual(told(form.weight, word), ("BadWord", place))

    def test_unfit(self):
        for web, crowd in [(Web.row(3), Crowd((2, 2))), (Web.row(3), Crowd((3,)))]:
            self.assertEqual(told(Form, web, crowd), ("Unfit",))
            self.assertEqual(told(ProductForm, web, crowd, None), ("Unfit",))
            self.assertEqual(told(OrderForm, web, crowd, None, None), ("Unfit",))
        self.assertEqual(told(OrderForm, Web.star(4), Crowd((2, 2)), None, None), ("Unfit",))

    def test_wrong_spots_and_orders(self):
        web, crowd = Web.row(3), Crowd((2, 1))
        good = [[1, 2], [3, 4], [5, 6]]
        for spots, place in [
            (None, -1), ("abc", -1), (good[:2], -1), (good + [[1, 1]], -1), ([[1]] * 4, -1), ([[1, 2], [3], None], 1),
            ([[1, 2], [3, 4], None], 2), ([[1, 0], [3, -4], [5, 6]], 0), ([[1, 2], [3, -4], "56"], 1),
            ([[1, 2], [3, "4"], []], 1), ([[1, 2, 3], [3, 4], [5, 6]], 0),
        ]:
            self.assertEqual(told(ProductForm, web, crowd, spots), ("BadTable", place), spots)
            self.assertEqual(told(OrderForm, web, crowd, spots, None), ("BadTable", place), spots)
        for orders in (
            None, "ab", [], [[1, 1]], [[1, 1]] * 3, [[1, 1], [1]], [[1, 1], None], [[1, 1], [0, 1]], [[1, -1], [1, 1]],
            [[1, "1"], [1, 1]],
        ):
            self.assertEqual(told(OrderForm, web, crowd, good, orders), ("BadTable", -1), orders)


def is_told_product(form, table):
    """What [23] asks of a told product form."""
    if form.spots[0] != (1,) * table.kinds or any(row[0] != 1 for row in form.spots):
        return False
    return all(
        form.spots[v][a] == form.spots[u][a] * table.at(u, v, a, 0)
        for u, v in table.web.ties + tuple(tie[::-1] for tie in table.web.ties) for a in range(table.kinds)
    )


def is_told_order(form, table):
    """What [23] asks of a told order form."""
    line, kinds = table.web.along, table.kinds
    for a, b in product(range(kinds), repeat=2):
        if form.orders[a][b] != (table.at(line[0], line[1], b, a) if b < a else 1):
            return False
    if form.spots[line[0]] != (1,) * kinds:
        return False
    return all(
        form.spots[q][a] == form.spots[p][a] * table.at(p, q, a, 0).over(table.at(line[0], line[1], a, 0))
        for p, q in zip(line, line[1:]) for a in range(kinds)
    )


class TestToldForm(unittest.TestCase):

    def test_told_forms(self):
        for size in (3, 4, 5):
            for web in some_webs(size):
                for crowd in small_crowds(size)[::2]:
                    table = kept_table(web, crowd, seed=size)
                    form = form_of(table, crowd)
                    self.assertEqual((form.web, form.crowd), (web, crowd))
                    if shape(web) == "threefold" or crowd.kinds == 2:
                        self.assertIs(form.__class__, ProductForm)
                        self.assertTrue(is_told_product(form, table))
                    else:
                        self.assertIs(form.__class__, OrderForm)
                        self.assertTrue(is_told_order(form, table))
                    self.assertEqual(form.laid(), local_shares(table, crowd))
                    self.assertEqual(form.table(), table)

    def test_many_words(self):
        for web in (Web.row(8), Web.ring(8), Web.full(8), renamed(Web.ring(8), (3, 6, 0, 7, 2, 1, 5, 4))):
            table = some_form(web, BIG_CROWD, web.along is not None).table()
            form = form_of(table, BIG_CROWD)
            self.assertEqual(form.table(), table)
            self.assertIs(form.__class__, OrderForm if web.along else ProductForm)

    def test_wrong_ones(self):
        table = table_of(Web.row(3), 3, [[2, 2, 2], [1, 1, 1]])
        self.assertEqual(told(form_of, table, Crowd((2, 1))), ("Unfit",))
        self.assertEqual(told(form_of, table, Crowd((2, 1, 1))), ("Unfit",))
        wrong = told(form_of, table, Crowd((1, 1, 1)))
        self.assertEqual(wrong[0], "NotKept")
        self.assertNotEqual(product_of(table, wrong[1]), 1)
        self.assertEqual(told(form_of, some_table(Web.full(8), 6), BIG_CROWD)[0], "NotKept")

    def test_a_ring_begun_at_any_place(self):
        crowd = Crowd((2, 1, 1))
        shares = local_shares(kept_table(Web.ring(4), crowd), crowd)
        for first, step in product(range(4), (1, -1)):
            line = [(first + step * at) % 4 for at in range(4)]
            # Read along this line, the same shares are those of an order form on the web renamed.
            order = [line.index(place) for place in range(4)]
            web = renamed(Web.ring(4), order)
            weights = {tuple(word[place] for place in line): shares[word].top * (shares.bottom // shares[word].bottom)
                       for word in words_of(crowd)}
            moved = Shares(crowd, [weights[word] for word in words_of(crowd)])
            self.assertEqual(web.along, (0, 1, 2, 3))
            table = table_in(web, moved)
            form = form_of(table, crowd)
            self.assertTrue(is_told_order(form, table))
            self.assertEqual(form.laid(), moved)


class TestRescaled(unittest.TestCase):

    def test_the_same_shares(self):
        numbers = Numbers(8)
        for form in list(some_forms(3)) + list(some_forms(4, (2, 3))):
            by_place, by_kind = numbers.ratios(form.crowd.size), tuple(numbers.ratios(form.crowd.kinds))
            found = rescaled(form, by_place, by_kind)
            self.assertIs(found.__class__, form.__class__)
            self.assertEqual((found.web, found.crowd), (form.web, form.crowd))
            for u, a in product(range(form.crowd.size), range(form.crowd.kinds)):
                self.assertEqual(found.spots[u][a], form.spots[u][a] * by_place[u] * by_kind[a])
            if isinstance(form, OrderForm):
                self.assertEqual(found.orders, form.orders)
            self.assertTrue(all_ratios(found.spots))
            self.assertEqual(found.laid(), form.laid())
            self.assertEqual(found.table(), form.table())

    def test_product_forms_of_the_same_shares(self):
        for web in some_webs(4):
            form = some_form(web, Crowd((2, 1, 1)), False)
            spots = [list(row) for row in form.spots]
            spots[1][2] = spots[1][2] * 2
            self.assertNotEqual(ProductForm(web, form.crowd, spots).laid(), form.laid())
            # On threefold webs the told form is the same shares' form with other factors.
            if shape(web) == "threefold":
                same = form_of(form.table(), form.crowd)
                by_kind = [form.spots[0][a].over(same.spots[0][a]) for a in range(3)]
                by_place = [form.spots[u][0].over(same.spots[u][0] * by_kind[0]) for u in range(4)]
                self.assertEqual(rescaled(same, by_place, by_kind).spots, form.spots)

    def test_wrong_factors(self):
        for order in (False, True):
            form = some_form(Web.row(3), Crowd((2, 1)), order)
            for wrong in (None, "abc", [1, 1], [1, 1, 1, 1], [1, 1, 0], [1, -1, 1], [1, 1, "1"], 3):
                self.assertEqual(told(rescaled, form, wrong, None), ("BadTable", 0), wrong)
            for wrong in (None, "ab", [1], [1, 1, 1], [0, 1], [1, Ratio(-1, 2)], [1, None], 2):
                self.assertEqual(told(rescaled, form, [1, 1, 1], wrong), ("BadTable", 1), wrong)


class TestFacts(unittest.TestCase):

    def test_product_forms_on_threefold_webs_and_for_two_kinds(self):
        for web in some_webs(4):
            for crowd in small_crowds(4):
                if shape(web) != "threefold" and crowd.kinds > 2:
                    continue
                table = kept_table(web, crowd, seed=9)
                spots = form_of(table, crowd).spots
                for (u, v), a, b in product(web.ties, range(crowd.kinds), range(crowd.kinds)):
                    expected = (spots[u][b] * spots[v][a]).over(spots[u][a] * spots[v][b])
                    self.assertEqual(table.at(u, v, a, b), expected)

    def test_exchanges_of_any_two_places(self):
        for size in (3, 4):
            for web in some_webs(size):
                for crowd in small_crowds(size):
                    table = kept_table(web, crowd, seed=2)
                    shares = local_shares(table, crowd)
                    alone = all(depends_on_two(shares, u, v) for u, v in combinations(range(size), 2))
                    if shape(web) == "threefold" or crowd.kinds == 2 or size == 3:
                        self.assertIs(alone, True)
                    else:
                        u, v = web.ties[0]
                        turns = [table.turn(u, v, a, b, c) for a, b, c in combinations(range(crowd.kinds), 3)]
                        self.assertIs(alone, all(turn == 1 for turn in turns))

    def test_three_places_along_a_line(self):
        for web, crowd in [(web, crowd) for web in some_webs(5) if web.along for crowd in small_crowds(5, (3, 4))]:
            table = kept_table(web, crowd, seed=6)
            shares = local_shares(table, crowd)
            line = web.along
            for places, kinds in product(combinations(line, 3), permutations(range(crowd.kinds), 3)):
                a, b, c = kinds
                word = next(word for word in words_of(crowd) if tuple(word[place] for place in places) == kinds)
                chance = {row: fraction(shares[placed(word, places, row)]) for row in permutations(kinds)}
                found = (chance[(a, b, c)] * chance[(b, c, a)] * chance[(c, a, b)]
                         / (chance[(b, a, c)] * chance[(c, b, a)] * chance[(a, c, b)]))
                self.assertEqual(found, 1 / fraction(table.turn(line[0], line[1], a, b, c)))


def depends_on_two(shares, u, v):
    found = {}
    for word in words_of(shares.crowd):
        change = shares.ratio_at(word, u, v)
        if found.setdefault((word[u], word[v]), change) != change:
            return False
    return True


def placed(word, places, kinds):
    row = list(word)
    for place, kind in zip(places, kinds):
        row[place] = kind
    return tuple(row)
