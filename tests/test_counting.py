"""[126] to [129]: how many lines have a word, and the shares that come of it."""

import unittest
from fractions import Fraction
from itertools import combinations, product
from math import comb

from steprows.counting import count_of, cut_counts, line_counts, line_shares, row_out
from steprows.crowds import Crowd, exchanged, words_of
from steprows.cuts import cut_flow
from steprows.evens import all_sum, is_even, turn_sum
from steprows.flows import share_flow
from steprows.joins import joined_crowd, joined_run, joined_shares, joined_word, joining
from steprows.leans import lean_of
from steprows.lines import Lines, all_lines, lines_many, one_way
from steprows.lots import joinable_lots
from steprows.ratios import Ratio
from steprows.shares import Shares, table_in
from steprows.standing import is_lasting
from steprows.webs import Web
from tests.common import BIG_CROWD, fraction, rank, told
from tests.test_lines import CROWDS, UNFIT, read_by_hand, rows_by_hand


def counts_by_hand(crowd):
    counts = {word: 0 for word in words_of(crowd)}
    for rows in rows_by_hand(crowd):
        counts[read_by_hand(crowd.size, rows)] += 1
    return counts


class TestCounts(unittest.TestCase):

    def test_against_all_lines(self):
        for crowd in CROWDS:
            counts = counts_by_hand(crowd)
            found = line_counts(crowd)
            self.assertIsInstance(found, list)
            self.assertEqual(found, list(counts.values()))
            shares = line_shares(crowd)
            self.assertIsInstance(shares, Shares)
            self.assertEqual(shares, Shares(crowd, found))
            for word, count in counts.items():
                self.assertEqual(count_of(crowd, list(word)), count)
                self.assertEqual(shares[word], Ratio(count, lines_many(crowd)))

    def test_five_kinds(self):
        crowd = Crowd((1, 1, 1, 1, 1))
        found = line_counts(crowd)
        self.assertEqual((len(found), sum(found)), (120, 2500))
        self.assertEqual(found, list(counts_by_hand(crowd).values()))

    def test_more_than_400_words(self):
        crowd = Crowd((2, 4, 2))
        self.assertEqual((crowd.many, lines_many(crowd)), (420, 784))
        self.assertEqual(told(line_counts, crowd), ("TooMany", 420))
        self.assertEqual(told(line_shares, crowd), ("TooMany", 420))
        self.assertEqual(count_of(crowd, (0, 0, 1, 1, 1, 1, 2, 2)), self.count_by_hand(crowd, (0, 0, 1, 1, 1, 1, 2, 2)))
        self.assertEqual(sum(number for _, number in cut_counts(crowd, 1)), 784)

    def count_by_hand(self, crowd, word):
        return sum(read_by_hand(crowd.size, rows) == word for rows in rows_by_hand(crowd))

    def test_lasting_and_alone(self):
        for crowd in CROWDS:
            run, words = one_way(crowd), words_of(crowd)
            self.assertTrue(is_lasting(run, line_shares(crowd)))
            # All numbers with excess 0 are multiples of one row.
            rows = []
            for word in words:
                row = [Fraction(0)] * len(words)
                for u, v in run.web:
                    if word[u] != word[v]:
                        row[words.index(exchanged(word, u, v))] += fraction(run.rate(u, v, word[v], word[u]))
                        row[words.index(word)] -= fraction(run.rate(u, v, word[u], word[v]))
                rows.append(row)
            self.assertEqual(rank(rows), len(words) - 1)

    def test_counts_of_words(self):
        for crowd in CROWDS:
            n, m = crowd.size, crowd.kinds
            counts = dict(zip(words_of(crowd), line_counts(crowd)))
            reversed_counts = dict(zip(words_of(Crowd(crowd.counts[::-1])), line_counts(Crowd(crowd.counts[::-1]))))
            for word, count in counts.items():
                falls = [i for i in range(n) if word[i - 1] > word[i]]
                rises = [i for i in range(n) if word[i - 1] < word[i]]
                self.assertEqual(
                    count * len(falls), sum(counts[exchanged(word, (i - 1) % n, i)] for i in rises)
                )
                self.assertEqual(counts[word[1:] + word[:1]], count)
                mirrored = tuple(m - 1 - word[-i % n] for i in range(n))
                self.assertEqual(reversed_counts[mirrored], count)

    def test_two_kinds_are_alike(self):
        self.assertEqual(line_counts(Crowd((3, 5))), [1] * 56)

    def test_wrong_ones_in_order(self):
        for crowd in UNFIT:
            self.assertEqual(told(line_counts, crowd), ("Unfit",))
            self.assertEqual(told(line_shares, crowd), ("Unfit",))
            self.assertEqual(told(count_of, crowd, None), ("Unfit",))
            self.assertEqual(told(cut_counts, crowd, 99), ("Unfit",))
        for crowd, number in (
            (BIG_CROWD, 10080), (Crowd((2, 2, 2, 1)), 630), (Crowd((1, 1, 1, 4)), 7 * 21 * 35),
            (Crowd((1, 1, 1, 1, 2)), 6 * 15 * 20 * 15),
        ):
            self.assertEqual(told(line_counts, crowd), ("TooMany", number))
            self.assertEqual(told(line_shares, crowd), ("TooMany", number))
        crowd = Crowd((1, 1, 1, 4))
        self.assertEqual(told(count_of, crowd, (0, 1, 2, 3, 3, 3, 3)), ("TooMany", 7 * 21 * 35))
        for word, place in [(None, -1), ((0, 1, 2), -1), ((0, 1, 4, 9, 3, 3, 3), 2), ((0, 1, 2, 2, 3, 3, 3), -2)]:
            self.assertEqual(told(count_of, crowd, word), ("BadWord", place))
        self.assertEqual(told(cut_counts, crowd, 2), ("TooMany", 7 * 21 * 35))
        for c in (3, -1, None, "0", Ratio(1)):
            self.assertEqual(told(cut_counts, crowd, c), ("BadKind", c))


class TestSetsOfPlaces(unittest.TestCase):

    def test_against_all_lines(self):
        for crowd in CROWDS:
            n, many = crowd.size, lines_many(crowd)
            words = [read_by_hand(n, rows) for rows in rows_by_hand(crowd)]
            for c in range(crowd.kinds - 1):
                size = sum(crowd.counts[:c + 1])
                found = cut_counts(crowd, c)
                expected = [
                    (places, sum(tuple(u for u in range(n) if word[u] <= c) == places for word in words))
                    for places in combinations(range(n), size)
                ]
                self.assertEqual(found, expected)
                self.assertIsInstance(found, list)
                self.assertEqual({number for _, number in found}, {many // comb(n, size)})

    def test_chances_flows_and_sums(self):
        for crowd in CROWDS:
            run, shares, n = one_way(crowd), line_shares(crowd), crowd.size
            for u, a in product(range(n), range(crowd.kinds)):
                self.assertEqual(shares.at_place(u, a), Ratio(crowd.counts[a], n))
                self.assertEqual(all_sum(lean_of(run), crowd, u, a), 0)
            for (u, v), a in product(run.web, range(crowd.kinds)):
                self.assertEqual(share_flow(run, shares, u, v, a), cut_flow(run, crowd, u, v, a))
            if crowd.kinds > 2:
                turns = [
                    turn_sum(lean_of(run), places, kinds) for places in combinations(range(n), 3)
                    for kinds in combinations(range(crowd.kinds), 3)
                ]
                self.assertTrue(any(turns))
            self.assertIs(is_even(run, crowd), crowd.kinds == 2)
            self.assertIs(table_in(Web.ring(n), shares) is not None, crowd.kinds == 2 or n == 3)


class TestRowOut(unittest.TestCase):

    def test_rows_and_counts(self):
        for crowd in CROWDS:
            if crowd.kinds == 2:
                continue
            for lines, r in product(all_lines(crowd)[::5], range(crowd.kinds - 1)):
                found = row_out(lines, r)
                counts = list(crowd.counts)
                counts[r:r + 2] = [counts[r] + counts[r + 1]]
                self.assertIsInstance(found, Lines)
                self.assertEqual(found, Lines(Crowd(counts), lines.rows[:r] + lines.rows[r + 1:]))

    def test_counts_of_joined_words(self):
        for crowd in CROWDS:
            for r in range(crowd.kinds - 1 if crowd.kinds > 2 else 0):
                parting = [[a] for a in range(r)] + [[r, r + 1]] + [[a] for a in range(r + 2, crowd.kinds)]
                fewer = joined_crowd(crowd, parting)
                sums = {word: 0 for word in words_of(fewer)}
                for word, count in zip(words_of(crowd), line_counts(crowd)):
                    sums[joined_word(parting, word)] += count
                factor = comb(crowd.size, sum(crowd.counts[:r + 1]))
                self.assertEqual(list(sums.values()), [factor * count for count in line_counts(fewer)])

    def test_the_word_may_be_another_one(self):
        crowd = Crowd((1, 1, 1))
        other = [
            lines for lines in all_lines(crowd)
            if row_out(lines, 0).read() != joined_word([[0, 1], [2]], lines.read())
            or row_out(lines, 1).read() != joined_word([[0], [1, 2]], lines.read())
        ]
        self.assertTrue(other)

    def test_wrong_ones_in_order(self):
        self.assertEqual(told(row_out, Lines(Crowd((2, 1)), [[0, 1]]), 99), ("Unfit",))
        self.assertEqual(told(row_out, Lines(Crowd((2, 1)), [[0, 1]]), 0), ("Unfit",))
        lines = Lines(Crowd((1, 2, 1)), [[0], [0, 1, 2]])
        for r in (2, -1, None, "0", Ratio(1)):
            self.assertEqual(told(row_out, lines, r), ("BadRow", r))


class TestJoined(unittest.TestCase):

    def test_lots_without_a_gap(self):
        for crowd in CROWDS:
            m = crowd.kinds
            gapless = [tuple(range(low, low + many)) for many in range(1, m + 1) for low in range(m + 1 - many)]
            run = one_way(crowd)
            self.assertEqual(joinable_lots(run), gapless)
            for parting in joining(run)[1:]:
                fewer = joined_crowd(crowd, parting)
                self.assertEqual(joined_run(run, parting), one_way(fewer))
                self.assertEqual(joined_shares(line_shares(crowd), parting), line_shares(fewer))
