"""shares and unhappy: compared with the mean of all 24 orders, gone through plainly."""

import itertools
import math
import random
import unittest
from fractions import Fraction

from asking import (
    WORKED, alone, ask, ask_last, bounds, changes, load, plain_all_groups, random_table, readers, shares, text_of,
    unhappy,
)

NOTHING = [0, 1]


def plain_shares(groups):
    """groups: what each of the 16 groups pays alone."""
    orders = list(itertools.permutations(range(4)))
    added = [0, 0, 0, 0]
    for order in orders:
        before = 0
        for reader in order:
            added[reader] += groups[before + 2 ** reader] - groups[before]
            before += 2 ** reader
    return [Fraction(number, len(orders)) for number in added]


def plain_unhappy(groups):
    fair = plain_shares(groups)
    return [group for group in range(16)
            if sum(fair[reader] for reader in range(4) if group >> reader & 1) > groups[group]]


def fractions_of(answer):
    """The four shares of an answer of shares, behind what all pay together."""
    return [Fraction(answer[place], answer[place + 1]) for place in (1, 3, 5, 7)]


class SharesCase(unittest.TestCase):
    def told(self, table, belongs, change_count):
        """What shares and unhappy answer, and what each reader pays alone."""
        given = ask(load(text_of(*table)), readers(*belongs), changes(change_count), shares(), unhappy(),
                    *[alone(2 ** reader) for reader in range(4)], alone(15))
        self.assertEqual(given[1:3], [[1], [1]])
        self.well_formed(given[3])
        self.promised(given[3], belongs, [answer[0] for answer in given[5:]])
        return given[3], given[4]

    def well_formed(self, answer):
        self.assertEqual(len(answer), 9)
        for place in (1, 3, 5, 7):
            self.assertGreaterEqual(answer[place], 0)
            self.assertGreaterEqual(answer[place + 1], 1)
            self.assertEqual(math.gcd(answer[place], answer[place + 1]), 1, answer)

    def promised(self, answer, belongs, alone_costs):
        fair = fractions_of(answer)
        self.assertEqual(answer[0], alone_costs[4])
        self.assertEqual(sum(fair), answer[0])
        for reader in range(4):
            self.assertGreaterEqual(fair[reader], 0)
            self.assertLessEqual(fair[reader], alone_costs[reader])
            if reader not in belongs:
                self.assertEqual(answer[1 + 2 * reader:3 + 2 * reader], NOTHING)

    def same_as_plain(self, table, belongs, change_count):
        told_shares, told_unhappy = self.told(table, belongs, change_count)
        groups = plain_all_groups(*table, belongs, change_count)
        case = (table, belongs, change_count)
        self.assertEqual(told_shares[0], groups[15], case)
        self.assertEqual(fractions_of(told_shares), plain_shares(groups), case)
        plain = plain_unhappy(groups)
        self.assertEqual(told_unhappy, [len(plain)] + plain, case)
        return told_shares, told_unhappy


class WorkedExample(SharesCase):
    def test_with_one_change(self):
        told = ask(load(WORKED), readers(0, 0, 1, 1), changes(1), shares(), unhappy())
        self.assertEqual(told[3:], [[21, 11, 1, 10, 1, 0, 1, 0, 1], [0]])

    def test_as_at_first(self):
        self.assertEqual(ask(load(WORKED), shares(), unhappy())[1:], [[15, 15, 1, 0, 1, 0, 1, 0, 1], [0]])


class HowManyReaders(SharesCase):
    ALIKE = [(0,)] * 16

    def test_all_questions_of_one_reader(self):
        table = (1, self.ALIKE, [(1, 1), (1, 4), (0, 2)])
        for reader in range(4):
            answer = self.same_as_plain(table, [reader] * 3, 2)[0]
            self.assertEqual(answer, [11] + NOTHING * reader + [11, 1] + NOTHING * (3 - reader))

    def test_two_readers(self):
        # The first one alone reads the table of 2 rows; the other one's kept answer saves it 1.
        table = (1, [(0,), (0,)], [(1, 1), (1, 9)])
        self.assertEqual(self.same_as_plain(table, [0, 1], 1), ([12, 3, 2, 21, 2, 0, 1, 0, 1], [0]))
        self.assertEqual(self.same_as_plain(table, [3, 1], 1), ([12, 0, 1, 21, 2, 0, 1, 3, 2], [0]))

    def test_three_readers(self):
        table = (1, self.ALIKE, [(1, 1)] * 3)
        self.assertEqual(self.same_as_plain(table, [0, 1, 2], 2), ([7, 7, 3, 7, 3, 7, 3, 0, 1], [0]))
        self.assertEqual(self.same_as_plain(table, [3, 1, 2], 2), ([7, 0, 1, 7, 3, 7, 3, 7, 3], [0]))

    def test_four_readers(self):
        table = (1, self.ALIKE, [(1, 1)] * 4)
        self.assertEqual(self.same_as_plain(table, [0, 1, 2, 3], 1), ([6, 3, 2, 3, 2, 3, 2, 3, 2], [0]))
        self.assertEqual(self.same_as_plain(table, [3, 0, 2, 1], 2), ([8, 2, 1, 2, 1, 2, 1, 2, 1], [0]))

    def test_four_readers_who_ask_unlike_often(self):
        table = (1, self.ALIKE, [(1, 1), (1, 2), (1, 3), (1, 4)])
        self.assertEqual(self.same_as_plain(table, [0, 1, 2, 3], 1), ([12, 3, 2, 5, 2, 7, 2, 9, 2], [0]))


class Fractions(SharesCase):
    def test_whole_ones_and_none(self):
        table = (1, [(number,) for number in range(5)], [(1, 3), (1, 2)])
        self.assertEqual(self.same_as_plain(table, [1, 3], 0)[0], [25, 0, 1, 15, 1, 0, 1, 10, 1])

    def test_parts_of_unlike_denominators(self):
        table = (1, [(0,), (0,), (4,)], [(0, 1), (1, 9), (0, 9)])
        self.assertEqual(self.same_as_plain(table, [2, 0, 3], 2)[0], [36, 131, 6, 0, 1, 11, 6, 37, 3])

    def test_fourths(self):
        rows = [(4,), (1,), (0,), (1,), (0,), (2,), (8,), (2,)]
        table = (1, rows, [(1, 5), (1, 1), (0, 9), (0, 1), (0, 5), (1, 3)])
        answer = self.same_as_plain(table, [0, 3, 2, 1, 2, 3], 4)[0]
        self.assertEqual(answer, [76, 115, 4, 15, 4, 79, 4, 95, 4])


class Edges(SharesCase):
    def test_no_questions(self):
        for change_count in (0, 1, 1000):
            table = (2, [(1, 2), (3, 4)], [])
            self.assertEqual(self.same_as_plain(table, [], change_count), ([0] + NOTHING * 4, [0]))

    def test_no_rows(self):
        for change_count in (0, 1, 1000):
            table = (2, [], [(0, 5), (1, 99), (3, 1), (2, 2)])
            self.assertEqual(self.same_as_plain(table, [0, 1, 2, 3], change_count), ([0] + NOTHING * 4, [0]))

    def test_neither(self):
        self.assertEqual(ask(load("columns a ;"), changes(1000), shares(), unhappy())[2:], [[0] + NOTHING * 4, [0]])

    def test_who_asks_nothing_pays_nothing_for_the_changes(self):
        table = (1, [(0,)] * 16, [(1, 99)])
        self.assertEqual(self.same_as_plain(table, [2], 1000)[0], [1584, 0, 1, 0, 1, 1584, 1, 0, 1])
        self.assertEqual(self.same_as_plain(table, [2], 100)[0], [299, 0, 1, 0, 1, 299, 1, 0, 1])

    def test_as_often_as_the_text_tells_whatever_the_bounds(self):
        begin = [load(WORKED), readers(0, 0, 1, 1), changes(1)]
        for low, high in (([0] * 4, [99] * 4), ([0] * 4, [0] * 4), ([99] * 4, [99] * 4)):
            told = ask(*begin, bounds(low, high), shares(), unhappy(), alone(3))
            self.assertEqual(told[3:], [[1], [21, 11, 1, 10, 1, 0, 1, 0, 1], [0], [21]])

    def test_the_readers_and_changes_that_are_held(self):
        told = ask(load(WORKED), shares(), readers(3, 3, 3, 3), shares(), changes(1), shares(),
                   readers(0, 0, 1, 1), shares(), changes(0), shares(), load(WORKED), shares())
        self.assertEqual(told[1::2], [
            [15, 15, 1, 0, 1, 0, 1, 0, 1], [15, 0, 1, 0, 1, 0, 1, 15, 1], [21, 0, 1, 0, 1, 0, 1, 21, 1],
            [21, 11, 1, 10, 1, 0, 1, 0, 1], [15, 8, 1, 7, 1, 0, 1, 0, 1], [15, 15, 1, 0, 1, 0, 1, 0, 1],
        ])

    def test_no_table(self):
        self.assertEqual(ask(shares(), unhappy(), load("columns a"), shares(), unhappy()),
                         [[-1], [-1], [0, 3, 9], [-1], [-1]])

    def test_the_largest_table(self):
        rows = [(number % 3, number // 4, number % 4, number // 8) for number in range(16)]
        questions = [(3, 9), (5, 4), (6, 99), (7, 3), (9, 8), (10, 20), (12, 1), (14, 30)]
        self.same_as_plain((4, rows, questions), [0, 1, 2, 3, 3, 2, 1, 0], 10)


class Unhappy(SharesCase):
    def test_two_who_would_rather_keep_their_own(self):
        # Readers 2 and 3 pay 14 alone, yet their shares come to 85/6; with reader 1, who asks nothing, as well.
        table = (1, [(0,), (0,), (4,)], [(0, 1), (1, 9), (0, 9)])
        self.assertEqual(self.same_as_plain(table, [2, 0, 3], 2)[1], [2, 12, 14])
        self.assertEqual(self.same_as_plain(table, [0, 3, 1], 2)[1], [2, 3, 7])

    def test_three(self):
        table = (1, [(1,), (2,), (8,), (0,), (1,), (1,), (0,)], [(0, 1), (0, 9), (0, 5), (1, 9)])
        self.assertEqual(self.same_as_plain(table, [2, 0, 1, 3], 8)[1], [1, 7])
        self.assertEqual(self.same_as_plain(table, [2, 3, 1, 0], 8)[1], [1, 14])

    def test_none_where_shares_come_to_just_what_is_paid_alone(self):
        # Both ask unlike things and no change costs: neither saves the other anything.
        table = (2, [(0, 0), (0, 1), (1, 2), (2, 2)], [(1, 4), (2, 5)])
        told_shares, told_unhappy = self.same_as_plain(table, [0, 1], 0)
        self.assertEqual(told_shares, [27, 12, 1, 15, 1, 0, 1, 0, 1])
        self.assertEqual(told_unhappy, [0])

    def test_never_the_group_0_and_never_all(self):
        chosen = random.Random(11)
        for step in range(300):
            table = random_table(chosen, 2, 10, 6)
            belongs = [chosen.randint(0, 3) for question in table[2]]
            groups = self.told(table, belongs, chosen.randint(0, 12))[1][1:]
            self.assertNotIn(0, groups)
            self.assertNotIn(15, groups)
            self.assertEqual(groups, sorted(groups))


class ManyTables(SharesCase):
    def test_small_tables(self):
        chosen = random.Random(7)
        denominators = set()
        counts = set()
        for step in range(1500):
            table = random_table(chosen, 2, 8, 7)
            belongs = [chosen.randint(0, 3) for question in table[2]]
            told_shares, told_unhappy = self.same_as_plain(table, belongs, chosen.randint(0, 12))
            denominators.update(told_shares[2::2])
            counts.add(told_unhappy[0])
        self.assertEqual(denominators, {1, 2, 3, 4, 6, 12})
        self.assertLessEqual({0, 1, 2}, counts)

    def test_three_columns(self):
        chosen = random.Random(8)
        for step in range(150):
            table = random_table(chosen, 3, 16)
            belongs = [chosen.randint(0, 3) for question in table[2]]
            self.same_as_plain(table, belongs, chosen.choice([0, 1, 2, 3, 5, 9, 30]))

    def test_promises_hold_for_tables_of_any_size(self):
        chosen = random.Random(9)
        for step in range(300):
            table = random_table(chosen, 4, 16)
            belongs = [chosen.randint(0, 3) for question in table[2]]
            self.told(table, belongs, chosen.choice([0, 1, 2, 5, 12, 40, 1000]))


class FewReaders(SharesCase):
    def test_which_readers_ask(self):
        """Whoever asks nothing pays nothing, for each group of those who ask."""
        rows = [(number % 2, number % 5) for number in range(10)]
        for asking in range(1, 16):
            belongs = [reader for reader in range(4) if asking >> reader & 1] * 2
            questions = [(1 + place % 3, 2 + place) for place in range(len(belongs))]
            self.same_as_plain((2, rows, questions), belongs, 3)

    def test_readers_are_told_apart_by_their_numbers(self):
        text = text_of(1, [(0,), (0,)], [(1, 1), (1, 9)])
        self.assertEqual(ask_last(load(text), changes(1), readers(1, 0), shares()), [12, 21, 2, 3, 2, 0, 1, 0, 1])
        self.assertEqual(ask_last(load(text), changes(1), readers(2, 3), shares()), [12, 0, 1, 0, 1, 3, 2, 21, 2])


if __name__ == "__main__":
    unittest.main()
