"""[61]: the lasting shares of full runs."""

import unittest

from steprows.crowds import Crowd
from steprows.ratios import Ratio
from steprows.runs import Run
from steprows.shares import Shares, local_shares
from steprows.solving import lasting_shares
from steprows.standing import is_lasting, standing_shares
from steprows.webs import Web
from tests.common import (
    BIG_CROWD, even_run, kept_table, small_crowds, solved_shares, some_run, some_standing_run, some_webs, told,
)


class TestLastingShares(unittest.TestCase):

    def test_against_elimination(self):
        for size in (3, 4):
            for web in some_webs(size):
                for crowd in small_crowds(size, (2, 3)):
                    run = some_run(web, crowd.kinds, seed=size)
                    shares = lasting_shares(run, crowd)
                    self.assertIsInstance(shares, Shares)
                    self.assertEqual(shares, solved_shares(run, crowd))
                    self.assertIs(is_lasting(run, shares), True)
                    self.assertGreater(min(shares.weights), 0)
                    self.assertEqual(lasting_shares(run * Ratio(7, 3), crowd), shares)

    def test_more_places_and_kinds(self):
        for web, crowd in [
            (Web.ring(4), Crowd((1, 1, 1, 1))), (Web.full(5), Crowd((3, 2))), (Web.row(5), Crowd((2, 1, 2))),
            (Web.star(5), Crowd((3, 1, 1))), (Web.ring(6), Crowd((1, 5))), (Web.row(6), Crowd((2, 4))),
        ]:
            run = some_run(web, crowd.kinds)
            shares = lasting_shares(run, crowd)
            self.assertIs(is_lasting(run, shares), True)
            self.assertGreater(min(shares.weights), 0)

    def test_known_shares(self):
        for web in some_webs(4):
            for crowd in (Crowd((2, 2)), Crowd((2, 1, 1))):
                run = some_standing_run(web, crowd)
                self.assertEqual(lasting_shares(run, crowd), standing_shares(run, crowd))
                self.assertEqual(lasting_shares(run, crowd), local_shares(kept_table(web, crowd), crowd))
                self.assertEqual(lasting_shares(even_run(web, crowd.kinds), crowd), Shares.even(crowd))

    def test_how_many_words(self):
        # No crowd has just 36 words; the next ones below and above have 35 and 42.
        run = some_run(Web.ring(7), 2)
        shares = lasting_shares(run, Crowd((4, 3)))
        self.assertEqual(len(shares), 35)
        self.assertIs(is_lasting(run, shares), True)
        self.assertEqual(told(lasting_shares, some_run(Web.ring(7), 3), Crowd((5, 1, 1))), ("TooMany", 42))
        self.assertEqual(told(lasting_shares, some_run(Web.row(8), 2), Crowd((5, 3))), ("TooMany", 56))
        self.assertEqual(told(lasting_shares, some_run(Web.full(8), 6), BIG_CROWD), ("TooMany", 10080))

    def test_wrong_ones_in_order(self):
        part = some_run(Web.row(8), 6, zeros=True)
        self.assertFalse(part.filled)
        self.assertEqual(told(lasting_shares, part, BIG_CROWD), ("NotFull",))
        self.assertEqual(told(lasting_shares, part, Crowd((2, 1))), ("Unfit",))
        self.assertEqual(told(lasting_shares, some_run(Web.row(8), 2), BIG_CROWD), ("Unfit",))
        part = Run(Web.row(3), 2, [[[0, 1], [1, 0]], [[0, 0], [1, 0]]])
        self.assertEqual(told(lasting_shares, part, Crowd((2, 2))), ("Unfit",))
        self.assertEqual(told(lasting_shares, part, Crowd((1, 1, 1))), ("Unfit",))
        self.assertEqual(told(lasting_shares, part, Crowd((2, 1))), ("NotFull",))

    def test_example(self):
        run = Run(Web.ring(3), 2, [[[0, 1], [2, 0]], [[0, 1], [1, 0]], [[0, 1], [1, 0]]])
        self.assertEqual(lasting_shares(run, Crowd((2, 1))).weights, (4, 5, 3))
