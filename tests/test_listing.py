"""[139], [140]: listings of runs, and how they are read."""

import unittest
from itertools import permutations, product

from steprows.errors import BadTable, BadText, BadWeb
from steprows.listing import listing, read_listing
from steprows.ratios import Ratio
from steprows.runs import Run
from steprows.webs import Web
from tests.common import some_run, some_webs, told

RUN = Run(Web.row(3), 2, [[[0, 2], [1, 0]], [[0, Ratio(3, 2)], [0, 0]]])
TEXT = ["web 3 ties 2 kinds 2", "0-1 0->1 2 1->0 1", "1-2 0->1 3/2 1->0 0"]
SIGNS = ("->", ">", "to", "-", "/", "1", "....", "0/1", "<=>", ":::")


def listed_by_hand(run, width, signs):
    lines = [f"web {run.web.size} ties {len(run.web)} kinds {run.kinds}"]
    for u, v in run.web:
        line = f"{u}-{v}"
        for a, b in permutations(range(run.kinds), 2):
            entry = str(a) + signs + str(b) + " " + run.rate(u, v, a, b).told()
            line += " " + " " * max(0, width - len(entry)) + entry
        lines.append(line)
    return lines


def big(digits):
    return Ratio(10 ** (digits - 1) + 7, 10 ** (digits - 1) + 9)


class TestListing(unittest.TestCase):

    def test_lines(self):
        for web in some_webs(3) + some_webs(4) + [Web.full(8)]:
            for kinds in (2, 3, 6):
                run = some_run(web, kinds, zeros=True)
                self.assertEqual(listing(run), listed_by_hand(run, 8, "->"))
                for width, signs in ((1, "->"), (20, ">"), (7, "...."), (9, "1")):
                    found = listing(run, width=width, signs=signs)
                    self.assertIsInstance(found, list)
                    self.assertEqual(found, listed_by_hand(run, width, signs))
                    self.assertEqual(read_listing(found, signs=signs), run)

    def test_widths(self):
        self.assertEqual(listing(RUN, width=1), TEXT)
        self.assertEqual(listing(RUN, width=6), TEXT)
        self.assertEqual(listing(RUN, width=7)[1:], ["0-1  0->1 2  1->0 1", "1-2 0->1 3/2  1->0 0"])
        self.assertEqual(listing(RUN, width=8)[2], "1-2 0->1 3/2   1->0 0")
        self.assertEqual(listing(RUN, width=9)[2], "1-2  0->1 3/2    1->0 0")
        self.assertEqual(listing(RUN), listing(RUN, width=8))
        self.assertEqual(listing(RUN, signs=".", width=4)[1], "0-1 0.1 2 1.0 1")

    def test_wrong_widths(self):
        for width in (0, 21, -1, None, "8", Ratio(8)):
            self.assertEqual(told(listing, RUN, width=width), ("BadNumber", "width"))
        self.assertIsNone(told(listing, RUN, width=20))

    def test_the_list_is_new(self):
        first = listing(RUN)
        first.clear()
        self.assertEqual(len(listing(RUN)), 3)


class TestReading(unittest.TestCase):

    def check(self, lines, line, signs="->"):
        self.assertEqual(told(read_listing, lines, signs=signs), ("BadText", line), lines)

    def test_back_and_forth(self):
        for web, kinds in product(some_webs(4), (2, 3)):
            for signs in SIGNS:
                for width in (1, 8, 20):
                    run = some_run(web, kinds, zeros=True)
                    lines = listing(run, width=width, signs=signs)
                    self.assertEqual(read_listing(lines, signs=signs), run)
                    self.assertEqual(read_listing(tuple(lines), signs=signs), run)
        self.assertEqual(read_listing(TEXT), RUN)

    def test_blanks(self):
        lines = ["   web  3 ties   2 kinds 2 ", "  0-1   0->1  2 1->0 1  ", "1-2 0->1 3/2 1->0    0"]
        self.assertEqual(read_listing(lines), RUN)

    def test_long_numbers(self):
        for digits in (20, 999, 1000):
            run = Run(Web.row(3), 2, [[[0, big(digits)], [10 ** digits - 1, 0]], [[0, 0], [big(digits).inverse(), 0]]])
            self.assertEqual(read_listing(listing(run, signs="=>"), signs="=>"), run)
        one = 10 ** 1000
        for rate in (one, Ratio(one, 7), Ratio(7, one)):
            run = Run(Web.row(3), 2, [[[0, 1], [1, 0]], [[0, 1], [rate, 0]]])
            self.check(listing(run), 3)
        self.check(["web 3 ties 2 kinds 2", TEXT[1], "0" * 1000 + "1-2 0->1 3/2 1->0 0"], 3)
        self.check(["web 3 ties " + "9" * 1000 + " kinds 2"] + TEXT[1:], 4)
        self.check(["web 3 ties " + "9" * 1001 + " kinds 2"] + TEXT[1:], 1)
        self.check([TEXT[0], TEXT[1], "1-" + "9" * 1000 + " 0->1 3/2 1->0 0"], 3)
        self.check([TEXT[0], "1-" + "9" * 1001 + " 0->1 3/2 1->0 0", TEXT[2]], 2)

    def test_first_line(self):
        for lines in (None, "web 3 ties 2 kinds 2", [], (), {0: TEXT[0]}, [None] + TEXT[1:], [3], [TEXT] + TEXT[1:]):
            self.check(lines, 1)
        for first in (
            "", " ", "web", "web 3 ties 2 kinds", "web 3 ties 2 kinds 2 2", "Web 3 ties 2 kinds 2", "web 3 tie 2 kinds 2",
            "web 3 ties 2 kind 2", "web 3 kinds 2 ties 2", "web 2 ties 2 kinds 2", "web 9 ties 2 kinds 2",
            "web 3 ties 2 kinds 1", "web 3 ties 2 kinds 7", "web 03 ties 2 kinds 2", "web 3 ties 02 kinds 2",
            "web 3 ties 2 kinds 02", "web +3 ties 2 kinds 2", "web 3 ties -2 kinds 2", "web 3 ties 2 kinds 2/1",
            "web 3 ties two kinds 2", "web 3 ties 2 kinds x", "web a ties 2 kinds 2", "web 3ties 2 kinds 2",
            "web 3 ties 2.0 kinds 2", "web 3 ties 1_0 kinds 2", "ties 2 web 3 kinds 2", "web 3 ties 2 kinds 2_",
            "web 3 ties kinds 2", "web 0 ties 2 kinds 2",
        ):
            self.check([first] + TEXT[1:], 1)
            self.check([first], 1)

    def test_number_of_lines(self):
        self.check(TEXT[:1], 2)
        self.check(TEXT[:2], 3)
        self.check(TEXT + ["1-2"], 4)
        self.check(TEXT + TEXT, 4)
        self.check(["web 3 ties 0 kinds 2", None], 2)
        self.check(["web 3 ties 1 kinds 2", None, None, None], 3)
        # This check comes before those of the lines.
        self.check([TEXT[0], None], 3)
        self.check([TEXT[0], None, None, None], 4)

    def test_no_ties(self):
        self.check(["web 3 ties 0 kinds 2"], 1)

    def test_words_of_a_line(self):
        for line in (
            None, 3, "", "  ", "0-1", "0-1 0->1", "0-1 0->1 2", "0-1 0->1 2 1->0", "0-1 0->1 2 1->0 1 0", "01 0->1 2 1->0 1",
            "0-1 0->1 2 1->0 1 0->1 2", "0-1 1->0 1 0->1 2", "0-1 0->1 2 0->1 1", "0-1 0>1 2 1>0 1", "0-1 0->1 2 1-> 0 1",
            "0-1 0 ->1 2 1->0 1", "0 -1 0->1 2 1->0 1", "00-1 0->1 2 1->0 1", "0-01 0->1 2 1->0 1", "-0-1 0->1 2 1->0 1",
            "0--1 0->1 2 1->0 1", "0-1-2 0->1 2 1->0 1", "0-x 0->1 2 1->0 1", "a-1 0->1 2 1->0 1", "-1 0->1 2 1->0 1",
            "0- 0->1 2 1->0 1", "0+1 0->1 2 1->0 1", "0-1 00->1 2 1->0 1", "0-1 0->2 2 2->0 1", "0/1 0->1 2 1->0 1",
            "0-1 0->1 2 1->0 1 1->1 0", "- 0->1 2 1->0 1",
        ):
            self.check([TEXT[0], line, None], 2)
            self.check([TEXT[0], TEXT[1], line], 3)

    def test_words_of_a_rate(self):
        for word in (
            "02", "+2", "2/1", "4/2", "1/02", "01/2", "2/", "/2", "2/0", "0/1", "0/2", "-0", "--1", "1/-2", "2.0", "x", "1e3",
            "1_0", "-", "/", "1/2/3", "-01", "-2/4", "-1/0", "1//2", "2/3-", "0x1", "-0/1", "- 1", "1/x", "->",
        ):
            self.check([TEXT[0], f"0-1 0->1 {word} 1->0 1", None], 2)
            self.check([TEXT[0], TEXT[1], f"1-2 0->1 1 1->0 {word}"], 3)
        # Told of a ratio, but of none that a run may have.
        self.check([TEXT[0], TEXT[1], "1-2 0->1 1 1->0 -1/3"], 3)
        self.check([TEXT[0], "0-1 0->1 -2 1->0 1", TEXT[2]], 2)
        self.check([TEXT[0], "0-1 0->1 -2 1->0 1", "x"], 3)

    def test_webs_and_tables(self):
        head = "web 4 ties 3 kinds 2"
        rest = " 0->1 1 1->0 1"
        bad = " 0->1 1 1->0 -1"
        for ties, line in [
            (("0-1", "0-1", "1-2"), 3), (("1-2", "0-1", "2-3"), 3), (("0-1", "1-0", "2-3"), 3), (("0-0", "1-9", "0-1"), 2),
            (("0-1", "1-2", "3-4"), 4), (("0-1", "0-2", "1-2"), 1), (("0-1", "1-2", "2-999"), 4), (("0-9", "1-2", "9-3"), 2),
        ]:
            self.check([head] + [tie + rest for tie in ties], line)
            # The ties are checked before the rates.
            self.check([head] + [tie + bad for tie in ties], line)
        ties = ("0-1", "1-2", "2-3")
        for wrong in ((0,), (1,), (2,), (1, 2), (0, 2)):
            lines = [head] + [tie + (bad if number in wrong else rest) for number, tie in enumerate(ties)]
            self.check(lines, wrong[0] + 2)

    def test_causes(self):
        head = "web 3 ties 2 kinds 2"
        rest, bad = " 0->1 1 1->0 1", " 0->1 1 1->0 -1"
        for ties, cause, place in [
            (("0-1" + rest, "0-1" + rest), BadWeb, 1), (("0-1" + rest, "1-2" + bad), BadTable, 1),
            (("1-2" + bad, "0-9" + rest), BadWeb, 1),
        ]:
            with self.assertRaises(BadText) as caught:
                read_listing([head] + list(ties))
            self.assertIs(caught.exception.__cause__.__class__, cause)
            self.assertEqual((caught.exception.__cause__.place, caught.exception.line), (place, place + 2))
        with self.assertRaises(BadText) as caught:
            read_listing(["web 4 ties 2 kinds 2", "0-1" + rest, "2-3" + rest])
        self.assertEqual((caught.exception.__cause__.place, caught.exception.line), (-2, 1))

    def test_signs(self):
        for signs in SIGNS:
            lines = [TEXT[0], f"0-1 0{signs}1 2 1{signs}0 1", f"1-2 0{signs}1 3/2 1{signs}0 0"]
            self.assertEqual(read_listing(lines, signs=signs), RUN)
            self.check(lines, 2, signs=signs + "x" if len(signs) < 4 else "x")
        self.check(TEXT, 2, signs="=>")

    def test_nothing_is_changed(self):
        lines = list(TEXT)
        read_listing(lines)
        self.assertEqual(lines, TEXT)
