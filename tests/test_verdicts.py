"""[136] to [138]: verdicts of full runs, of joined runs, and of runs with one tie more or less."""

import unittest
from itertools import permutations, product

from steprows.arrows import Arrows
from steprows.backs import backwards
from steprows.classes import classes_run
from steprows.crowds import Crowd, words_of
from steprows.cuts import two_rates
from steprows.evens import is_even
from steprows.flows import turning_run
from steprows.forms import Form, OrderForm, ProductForm, form_of
from steprows.free import spread_to
from steprows.joins import joined_crowd, joined_run, joining
from steprows.leans import run_of
from steprows.ratios import Ratio
from steprows.rings import quad_products
from steprows.runs import Run
from steprows.shapes import is_star, is_tree, non_ties
from steprows.shares import table_in
from steprows.solving import lasting_shares
from steprows.standing import is_lasting, quickened, standing_run, stands, table_of_run
from steprows.tables import RatioTable
from steprows.verdicts import (
    Even, Local, Stands, Verdict, joined_verdicts, quick_verdict, run_with_tie, run_without, verdict,
)
from steprows.webs import Web
from tests.common import (
    BIG_CROWD, even_lean, even_run, some_classes, some_ratios, some_rows, some_run, some_standing_run, some_webs,
    spun_run, told,
)
from tests.test_lots import run_that_joins
from tests.test_rings import level_quad

CLASSES = {"stands": Stands, "even": Even, "local": Local, "other": Verdict}


def verdict_cases():
    """Runs of all verdicts on webs of every shape."""
    for web in some_webs(3) + some_webs(4):
        for crowd in (Crowd((web.size - 1, 1)), Crowd((web.size - 2, 2)), Crowd((1, web.size - 2, 1))):
            if crowd.kinds == 2 and crowd.size == 3 and crowd.counts[0] == 1:
                continue
            spun, _ = spun_run(web, crowd.kinds)
            runs = [
                Run.level(web, crowd.kinds), some_standing_run(web, crowd), even_run(web, crowd.kinds),
                run_of(web, even_lean(web, crowd)), some_run(web, crowd.kinds), spun, turning_run(web, crowd),
            ]
            for run in runs:
                if run is not None:
                    yield run, crowd
    yield level_quad(Web.ring(4), 1)[0], Crowd((2, 2))
    crowd = Crowd((1, 1, 1, 1))
    classes = some_classes(crowd, ((0, 1, 2), (3,)))
    yield classes_run(Web.ring(4), classes, some_rows(Web.ring(4), 4)), crowd


def word_by_hand(run, crowd):
    if stands(run, crowd):
        return "stands"
    if is_even(run, crowd):
        return "even"
    if table_in(run.web, lasting_shares(run, crowd)) is not None:
        return "local"
    return "other"


class TestVerdicts(unittest.TestCase):

    def test_classes(self):
        self.assertTrue(issubclass(Local, Verdict))
        self.assertTrue(issubclass(Even, Local) and issubclass(Stands, Local))
        self.assertFalse(issubclass(Even, Stands) or issubclass(Stands, Even))

    def test_against_its_parts(self):
        seen = set()
        for run, crowd in verdict_cases():
            found = verdict(run, crowd)
            word = word_by_hand(run, crowd)
            self.assertEqual(found.word, word)
            self.assertIs(found.__class__, CLASSES[word])
            self.assertEqual((found.run, found.crowd), (run, crowd))
            self.assertEqual(found.shares, lasting_shares(run, crowd))
            self.assertEqual(found.table(), table_in(run.web, found.shares))
            self.assertEqual(found.turned_run(), backwards(run, crowd))
            self.assertIs(found.turned_run() is None, word == "other")
            self.assertIs(word == "stands", found.turned_run() == run)
            for place in words_of(crowd):
                self.assertEqual(found.check(list(place)), 0)
                self.assertIsInstance(found.check(place), Ratio)
            self.check_word(found, word)
            if found.turned_run() is not None:
                self.assertEqual(verdict(found.turned_run(), crowd).word, word)
            if is_tree(run.web) and not is_star(run.web):
                self.assertIn(word, ("stands", "other"))
            seen.add(word)
        self.assertEqual(seen, {"stands", "even", "local", "other"})

    def check_word(self, found, word):
        if word == "stands":
            self.assertEqual(found.table(), table_of_run(found.run))
            form = found.form()
            self.assertIsInstance(form, Form)
            told_form = form_of(found.table(), found.crowd)
            self.assertIs(form.__class__, told_form.__class__)
            self.assertEqual(form.spots, told_form.spots)
            self.assertEqual(form.laid(), found.shares)
        if word == "even":
            self.assertEqual(found.table(), RatioTable.even(found.run.web, found.run.kinds))
            self.assertEqual(len(set(found.shares.weights)), 1)
        if word == "other":
            self.assertIsNone(found.table())

    def test_check_is_the_excess(self):
        # The shares of another run are not lasting, which check tells.
        run, crowd = some_run(Web.row(3), 2), Crowd((2, 1))
        found = Verdict(run, crowd, lasting_shares(Run.level(Web.row(3), 2), crowd))
        self.assertTrue(any(found.check(word) for word in words_of(crowd)))

    def test_both_forms(self):
        crowd = Crowd((2, 1, 1))
        for web, form in ((Web.row(4), OrderForm), (Web.star(4), ProductForm)):
            self.assertIs(verdict(some_standing_run(web, crowd), crowd).form().__class__, form)

    def test_wrong_words(self):
        found = verdict(some_run(Web.row(4), 3), Crowd((2, 1, 1)))
        for word, place in [(None, -1), ((0, 1, 2), -1), ((0, 3, 9, 1), 1), ((0, 1, 1, 2), -2)]:
            self.assertEqual(told(found.check, word), ("BadWord", place))

    def test_wrong_ones_in_order(self):
        part = some_run(Web.row(4), 3, zeros=True)
        for call in (verdict, quick_verdict, joined_verdicts):
            for crowd in (Crowd((2, 2)), Crowd((2, 2, 1)), Crowd((1, 1, 1))):
                self.assertEqual(told(call, part, crowd), ("Unfit",))
            self.assertEqual(told(call, part, Crowd((2, 1, 1))), ("NotFull",))
            self.assertEqual(told(call, some_run(Web.ring(8), 6, zeros=True), BIG_CROWD), ("NotFull",))
        for call in (verdict, joined_verdicts):
            self.assertEqual(told(call, some_run(Web.ring(8), 6), BIG_CROWD), ("TooMany", 10080))
            self.assertEqual(told(call, Run.level(Web.ring(7), 3), Crowd((5, 1, 1))), ("TooMany", 42))
            # The words of the crowd itself are counted, not those of a joined one.
            self.assertEqual(told(call, Run.level(Web.ring(8), 3), Crowd((4, 2, 2))), ("TooMany", 420))

    def test_35_words(self):
        run = even_run(Web.ring(7), 2)
        crowd = Crowd((4, 3))
        self.assertEqual((crowd.many, verdict(run, crowd).word), (35, "even"))
        self.assertEqual(joined_verdicts(run, crowd), [(((0,), (1,)), "even")])


class TestQuickVerdict(unittest.TestCase):

    def test_against_verdicts(self):
        seen = set()
        for run, crowd in verdict_cases():
            word = word_by_hand(run, crowd)
            self.assertEqual(quick_verdict(run, crowd), word if word in ("stands", "even") else "unknown")
            seen.add(word)
        self.assertEqual(len(seen), 4)

    def test_many_words(self):
        web = Web.ring(8)
        self.assertEqual(quick_verdict(even_run(web, 6), BIG_CROWD), "even")
        self.assertEqual(quick_verdict(Run.level(web, 6), BIG_CROWD), "stands")
        self.assertEqual(quick_verdict(some_run(web, 6), BIG_CROWD), "unknown")
        self.assertEqual(quick_verdict(some_standing_run(Web.row(7), Crowd((5, 1, 1))), Crowd((5, 1, 1))), "stands")


class TestJoinedVerdicts(unittest.TestCase):

    def runs(self, web, crowd):
        for parting in (((0, 1), (2,)), ((0, 2), (1,)), ((0,), (1, 2))):
            yield run_that_joins(web, 3, parting)
        yield Run.level(web, 3)
        yield two_rates(web, 3, ahead=[2] * len(web), behind=[1] * len(web))
        yield some_standing_run(web, crowd)
        turning = turning_run(web, crowd)
        if turning is not None:
            yield turning
        yield even_run(web, 3)
        quick = quickened(Run.level(web, 3), *web.ties[0], 3)
        yield quick

    def test_against_each_parting(self):
        seen = set()
        for web in some_webs(3) + some_webs(4):
            crowd = Crowd((web.size - 2, 1, 1))
            for run in self.runs(web, crowd):
                found = joined_verdicts(run, crowd)
                self.assertIsInstance(found, list)
                self.assertEqual([parting for parting, _ in found], joining(run)[1:])
                word = verdict(run, crowd).word
                self.assertEqual(found[-1], (((0,), (1,), (2,)), word))
                for parting, other in found:
                    self.assertEqual(other, verdict(joined_run(run, parting), joined_crowd(crowd, parting)).word)
                    if word == "stands":
                        self.assertEqual(other, "stands")
                    if word == "even":
                        self.assertIn(other, ("even", "stands"))
                    seen.add((word, other))
        self.assertLessEqual({("stands", "stands"), ("even", "even"), ("other", "local"), ("other", "stands")}, seen)

    def test_an_even_run_whose_joined_one_stands(self):
        # Only kinds 0, 1 and 2 lean round between the centre and the others.
        web, crowd = Web.star(4), Crowd((1, 1, 1, 1))
        table = [[0, 2, 1, 1], [1, 0, 2, 1], [2, 1, 0, 1], [1, 1, 1, 0]]
        found = dict(joined_verdicts(Run(web, 4, [table] * 3), crowd))
        self.assertEqual(found[(0,), (1,), (2,), (3,)], "even")
        self.assertEqual(found[(0, 1, 2), (3,)], "stands")

    def test_two_kinds(self):
        run, crowd = level_quad(Web.ring(4), 2)[0], Crowd((2, 2))
        self.assertEqual(joined_verdicts(run, crowd), [(((0,), (1,)), "local")])
        self.assertEqual(quad_products(run)[0], "level")


class TestTies(unittest.TestCase):

    def table(self, kinds, seed=6):
        return [list(row) for row in some_run(Web.row(3), kinds, seed).rates[0]]

    def test_one_more(self):
        for web in some_webs(4) + [Web.row(5)]:
            for kinds in (2, 3):
                run, table = some_run(web, kinds), self.table(kinds)
                for u, v in non_ties(web):
                    more = run_with_tie(run, u, v, table)
                    self.assertEqual((more.web, more.kinds), (web + (u, v), kinds))
                    for (p, q), a, b in product(web, range(kinds), range(kinds)):
                        self.assertEqual(more.rate(p, q, a, b), run.rate(p, q, a, b))
                    for a, b in permutations(range(kinds), 2):
                        self.assertEqual(more.rate(u, v, a, b), table[a][b])
                    turned = run_with_tie(run, v, u, tuple(tuple(row) for row in table))
                    for a, b in permutations(range(kinds), 2):
                        self.assertEqual(turned.rate(v, u, a, b), table[a][b])
                    self.assertEqual(run_without(more, v, u), run)
                    self.assertEqual(run_without(turned, u, v), run)

    def test_one_less(self):
        run = some_run(Web.ring(4), 3)
        for u, v in run.web:
            for less in (run_without(run, u, v), run_without(run, v, u)):
                self.assertEqual(less.web, run.web - (u, v))
                for (p, q), a, b in product(less.web, range(3), range(3)):
                    self.assertEqual(less.rate(p, q, a, b), run.rate(p, q, a, b))

    def test_standing_with_one_more(self):
        seen = set()
        for web in some_webs(4):
            for crowd in (Crowd((2, 2)), Crowd((2, 1, 1))):
                for run in (some_standing_run(web, crowd), some_run(web, crowd.kinds), Run.level(web, crowd.kinds)):
                    for u, v in non_ties(web):
                        for more in self.longer_runs(run, crowd, u, v):
                            old = table_of_run(run)
                            spread = spread_to(old, crowd, u, v) if stands(run, crowd) else None
                            expected = spread is not None and table_of_run(more) == spread
                            self.assertIs(stands(more, crowd), expected)
                            seen.add((stands(run, crowd), expected))
        self.assertEqual(seen, {(True, True), (True, False), (False, False)})

    def longer_runs(self, run, crowd, u, v):
        kinds = run.kinds
        yield run_with_tie(run, u, v, self.table(kinds))
        level = [[0 if a == b else 3 for b in range(kinds)] for a in range(kinds)]
        more = run_with_tie(run, u, v, level)
        yield more
        if stands(run, crowd):
            spread = spread_to(table_of_run(run), crowd, u, v)
            if spread is not None:
                yield standing_run(spread, some_rows(more.web, kinds))
                entries = [[spread.at(u, v, a, b) for b in range(kinds)] for a in range(kinds)]
                yield run_with_tie(run, u, v, [[0 if a == b else entries[a][b] for b in range(kinds)] for a in range(kinds)])

    def test_even_with_one_level_tie_more(self):
        seen = set()
        for web in some_webs(4):
            for crowd in (Crowd((2, 2)), Crowd((2, 1, 1))):
                for run in (even_run(web, crowd.kinds), run_of(web, even_lean(web, crowd)), some_run(web, crowd.kinds)):
                    level = [[0 if a == b else Ratio(5, 2) for b in range(crowd.kinds)] for a in range(crowd.kinds)]
                    for u, v in non_ties(web):
                        even = is_even(run, crowd)
                        self.assertIs(is_even(run_with_tie(run, u, v, level), crowd), even)
                        self.assertIs(is_even(run_with_tie(run, v, u, level), crowd), even)
                        seen.add(even)
        self.assertEqual(seen, {True, False})

    def test_wrong_ones_in_order(self):
        run, good = some_run(Web.ring(4), 2), [[0, 1], [2, 0]]
        for u, v, wrong in [
            (4, 9, ("BadPlace", 4)), (0, -1, ("BadPlace", -1)), (2, 2, ("BadPlace", 2)), ("0", 1, ("BadPlace", "0")),
            (0, None, ("BadPlace", None)), (1, 0, ("BadWeb", 0)), (0, 3, ("BadWeb", 1)), (3, 2, ("BadWeb", 3)),
        ]:
            self.assertEqual(told(run_with_tie, run, u, v, None), wrong)
        for (u, v), place in [((0, 2), 1), ((2, 0), 1), ((3, 1), 3)]:
            for table in (
                None, [], [[0, 1]], [[0, 1], [1, 0], [1, 1]], [[0, 1], [1]], [[0, -1], [1, 0]], [[0, 1], [1, 1]],
                [[1, 1], [1, 0]], [[0, None], [1, 0]], ["01", "10"], [[0, 1, 1], [1, 0, 1], [1, 1, 0]],
            ):
                self.assertEqual(told(run_with_tie, run, u, v, table), ("BadTable", place), table)
            self.assertIsNone(told(run_with_tie, run, u, v, good))
        self.assertIsNone(told(run_with_tie, run, 0, 2, [[0, 0], [0, 0]]))
        row = some_run(Web.row(4), 2)
        for u, v, wrong in [
            (4, 9, ("BadPlace", 4)), (0, -1, ("BadPlace", -1)), (2, 2, ("BadPlace", 2)), ("0", 1, ("BadPlace", "0")),
            (2, 0, ("NoTie", 2, 0)), (0, 3, ("NoTie", 0, 3)), (0, 1, ("BadWeb", -2)), (2, 1, ("BadWeb", -2)),
        ]:
            self.assertEqual(told(run_without, row, u, v), wrong)


class TestArrowsHaveVerdicts(unittest.TestCase):

    def test_cases(self):
        rates = ((0, 2, 2), (1, 0, 2), (1, 1, 0))
        crowd = Crowd((1, 1, 1))
        row = Arrows(Web.row(3), ((0, 1, 1), (1, 2, 1)), rates).as_run()
        ring = Arrows(Web.ring(3), ((0, 1, 1), (2, 0, 1), (1, 2, 1)), rates).as_run()
        self.assertEqual((verdict(row, crowd).word, verdict(ring, crowd).word), ("stands", "local"))
        self.assertTrue(is_lasting(ring, verdict(ring, crowd).shares))
        self.assertEqual(len(some_ratios(crowd, [[0, 1, 2]])), 3)
