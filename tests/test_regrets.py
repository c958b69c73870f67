"""bounds, regret, least: compared with a plain way through all sets of at most 2 groupings and both bounds."""

import itertools
import random
import unittest

from asking import (
    LEAST, MOST, WORKED, ask, ask_last, bounds, changes, least, load, plain_read, plain_sizes, random_table, readers,
    regret, text_of,
)

# 3 rows, which come to one line: keeping the answer saves 2 each time that it's asked.
ONE = "columns a ; row 1 : 1 ; row 1 : 2 ; row 1 : 3 ; ask a times 4 ;"
TWO = "columns a, b ; " + "row 1, 1 : 1 ; " * 9 + "ask a times 4 ; ask b times 5 ;"


def plain_sets(column_count):
    """All sets of at most 2 groupings, in order."""
    return [list(kept) for count in range(3) for kept in itertools.combinations(range(2 ** column_count), count)]


class Plain:
    """What each set of a table costs for a question that comes once, and for the changes."""

    def __init__(self, table, change_count):
        self.column_count, self.rows, self.questions = table
        self.sets = plain_sets(self.column_count)
        sizes = plain_sizes(self.column_count, self.rows)
        self.reads = [[plain_read(kept, grouping, sizes, len(self.rows)) for grouping, times in self.questions]
                      for kept in self.sets]
        self.upkeep = [2 * change_count * len(kept) for kept in self.sets]

    def cost(self, place, often):
        return self.upkeep[place] + sum(times * reads for times, reads in zip(often, self.reads[place]))

    def dearer(self, own, other, low, high):
        """By how much it may cost more: with each question as often as one or the other of its bounds tells."""
        more = self.upkeep[own] - self.upkeep[other]
        for one, two, few, many in zip(self.reads[own], self.reads[other], low, high):
            more += max(few * (one - two), many * (one - two))
        return more

    def dearer_by_all_ways(self, own, other, low, high):
        """The same, by all ways to choose one bound for each question."""
        return max(self.cost(own, often) - self.cost(other, often) for often in itertools.product(*zip(low, high)))

    def regret(self, own, low, high):
        """What regret answers."""
        dearer = [self.dearer(own, other, low, high) for other in range(len(self.sets))]
        greatest = max(dearer)
        to = own if greatest == 0 else dearer.index(greatest)
        return [greatest, len(self.sets[to])] + self.sets[to]

    def least(self, regrets):
        """What least answers, if these are the answers of regret for all sets."""
        greatest = [answer[0] for answer in regrets]
        own = greatest.index(min(greatest))
        return [greatest[own], len(self.sets[own])] + self.sets[own] + regrets[own][1:]


class RegretCase(unittest.TestCase):
    def all_told(self, table, change_count, low, high):
        """What regret answers for each set, and what least answers."""
        begin = [load(text_of(*table)), changes(change_count), bounds(low, high)]
        regrets = []
        sets = plain_sets(table[0])
        for place in range(0, len(sets), 16):
            told = ask(*begin, *[regret(*kept) for kept in sets[place:place + 16]], least())
            self.assertEqual(told[1:3], [[1], [1]])
            regrets.extend(told[3:-1])
        return regrets, told[-1]

    def same_as_plain(self, table, change_count, low, high):
        regrets, told_least = self.all_told(table, change_count, low, high)
        plain = Plain(table, change_count)
        case = (table, change_count, low, high)
        self.assertEqual(regrets, [plain.regret(own, low, high) for own in range(len(plain.sets))], case)
        self.assertEqual(told_least, plain.least(regrets), case)
        return plain, regrets, told_least


def random_bounds(chosen, count):
    """Wide ones, narrow ones, and such as are alike."""
    most = chosen.choice([0, 1, 3, 10, 99])
    low = [chosen.randint(0, most) for place in range(count)]
    if chosen.random() < 0.2:
        return low, list(low)
    return low, [chosen.randint(number, most) for number in low]


class WorkedExample(RegretCase):
    def test_as_it_is_at_first(self):
        self.assertEqual(ask_last(load(WORKED), least()), [0, 2, 1, 3, 2, 1, 3])

    def test_with_bounds(self):
        told = ask(load(WORKED), bounds([0] * 4, [9] * 4), regret(3), least())
        self.assertEqual(told[1:], [[1], [27, 2, 0, 1], [18, 2, 0, 3, 2, 1, 2]])

    def test_by_the_plain_way(self):
        table = (2, [(0, 0), (0, 1), (1, 0), (1, 0), (0, 0)], [(1, 3), (2, 1), (3, 2), (0, 1)])
        for change_count in (0, 1, 3, 50):
            self.same_as_plain(table, change_count, [0] * 4, [9] * 4)
            self.same_as_plain(table, change_count, [3, 1, 2, 1], [3, 1, 2, 1])


class Bounds(unittest.TestCase):
    def held(self, *calls):
        """Both bounds of the one question, told by what may be regretted, and by how little."""
        told = ask(load("columns a ; row 1 : 1 ; row 1 : 1 ; ask a times 4 ;"), *calls,
                   changes(0), regret(), changes(50), regret(1))
        few = 100 - told[-1][0]
        return few, told[-3][0]

    def test_as_the_text_tells_at_first(self):
        self.assertEqual(self.held(), (4, 4))
        self.assertEqual(ask_last(load(ONE), regret()), [8, 1, 1])
        self.assertEqual(ask_last(load("columns a ; row 1 : 1 ; row 1 : 1 ; ask a ;"), regret()), [1, 1, 1])

    def test_ordinary_values(self):
        for low, high in ((2, 7), (0, 1), (1, 4), (4, 5), (13, 98)):
            self.assertEqual(self.held(bounds([low], [high])), (low, high))

    def test_alike(self):
        for often in (0, 1, 5, 99):
            self.assertEqual(self.held(bounds([often], [often])), (often, often))

    def test_edges(self):
        self.assertEqual(self.held(bounds([0], [99])), (0, 99))
        told = ask(load(WORKED), bounds([0] * 4, [0] * 4), bounds([99] * 4, [99] * 4), bounds([0] * 4, [99] * 4),
                   bounds([0, 99, 5, 0], [0, 99, 5, 99]))
        self.assertEqual(told[1:], [[1]] * 4)

    def test_each_question_has_its_own(self):
        told = ask(load(TWO), bounds([1, 2], [10, 20]), regret(), regret(1), regret(2), changes(300), regret(3),
                   regret(1), regret(2))
        # Each kept answer has one line, else 9 rows are read: 8 saved each time, at most as often as the high ones tell.
        self.assertEqual(told[2:5], [[240, 1, 3], [160, 1, 3], [80, 1, 3]])
        # Now it costs 600 to keep one, and 8 are saved at least as often as the low ones tell.
        self.assertEqual(told[6:], [[600 - 24, 0], [600 - 8, 0], [600 - 16, 0]])

    def test_the_last_ones_told_hold(self):
        self.assertEqual(self.held(bounds([2], [7]), bounds([1], [3])), (1, 3))

    def test_they_hold_when_readers_and_changes_are_told(self):
        told = ask(load(ONE), bounds([2], [7]), changes(3), readers(3), changes(0), regret())
        self.assertEqual(told[-1], [14, 1, 1])

    def test_load_sets_them_back(self):
        again = load("columns a ; row 1 : 1 ; row 1 : 1 ; ask a times 6 ;")
        self.assertEqual(self.held(bounds([2], [7]), again), (6, 6))

    def test_a_text_that_is_not_right_leaves_them(self):
        self.assertEqual(self.held(bounds([2], [7]), load("columns a ; ask b ;")), (2, 7))

    def test_no_question(self):
        told = ask(load("columns a ; row 1 : 1 ;"), bounds([], []), bounds([0], []), bounds([], [0]), bounds([0], [0]))
        self.assertEqual(told[1:], [[1], [-3], [-3], [-3]])

    def test_eight_questions(self):
        text = "columns a ; row 1 : 1 ; row 1 : 1 ; " + "ask a ; " * 8
        told = ask(load(text), regret(), bounds(range(8), range(1, 9)), regret(), bounds([0] * 7, [1] * 7),
                   bounds([0] * 9, [1] * 9), regret())
        self.assertEqual(told[1:], [[8, 1, 1], [1], [36, 1, 1], [-3], [-3], [36, 1, 1]])


class BoundsRefused(unittest.TestCase):
    def refused(self, low, high):
        """A refusal leaves both bounds as they were."""
        begin = [load(TWO), changes(1), bounds([2, 3], [5, 7])]
        behind = [regret(), regret(1), regret(2), regret(3), regret(0), changes(30), regret(3), regret(1, 2), least()]
        told = ask(*begin, bounds(low, high), *behind)
        self.assertEqual(told[3], [-3], (low, high))
        self.assertEqual(told[4:], ask(*begin, *behind)[3:])
        self.assertEqual(told[4], [94, 1, 3])
        self.assertEqual(told[10], [20, 0])

    def test_too_few(self):
        self.refused([2], [5, 7])
        self.refused([2, 3], [5])
        self.refused([2], [5])
        self.refused([], [])
        self.refused([], [5, 7])
        self.refused([2, 3], [])

    def test_too_many(self):
        self.refused([2, 3, 4], [5, 7])
        self.refused([2, 3], [5, 7, 9])
        self.refused([2, 3, 4], [5, 7, 9])
        self.refused([1] * 2000, [2] * 2000)

    def test_too_few_and_too_many(self):
        self.refused([2], [5, 7, 9])
        self.refused([2, 3, 4], [5])

    def test_below_0(self):
        for number in (-1, -99, LEAST):
            self.refused([number, 1], [5, 5])
            self.refused([1, number], [5, 5])
            self.refused([0, 0], [number, 5])
            self.refused([0, 0], [5, number])
            self.refused([number, number], [number, number])

    def test_above_99(self):
        for number in (100, 101, MOST):
            self.refused([number, 1], [5, 5])
            self.refused([1, number], [5, 5])
            self.refused([0, 0], [number, 5])
            self.refused([0, 0], [5, number])
            self.refused([number, number], [number, number])

    def test_a_low_one_greater_than_its_high_one(self):
        self.refused([6, 1], [5, 9])
        self.refused([1, 9], [5, 8])
        self.refused([99, 99], [0, 99])
        self.refused([1, 1], [0, 0])
        self.refused([1, 0], [0, 1])

    def test_below_0_and_above_99(self):
        self.refused([LEAST, LEAST], [MOST, MOST])
        self.refused([MOST, MOST], [LEAST, LEAST])
        self.refused([0, -1], [100, 99])


class Regret(RegretCase):
    def test_no_grouping_one_and_two(self):
        told = ask(load(TWO), bounds([1, 1], [2, 3]), regret(), regret(0), regret(1), regret(2), regret(3),
                   regret(1, 2), regret(0, 2))
        self.assertEqual(told[2:], [
            [40, 1, 3], [40, 1, 3], [24, 1, 3], [16, 1, 3], [0, 1, 3], [0, 2, 1, 2], [16, 1, 3],
        ])

    def test_in_any_order_and_more_than_once(self):
        begin = [load(WORKED), bounds([0] * 4, [9] * 4)]
        told = ask(*begin, regret(3, 0), regret(0, 3), regret(0, 3, 0, 0, 3), regret(*[3, 0] * 1000))
        self.assertEqual(told[2:], [[18, 2, 1, 2]] * 4)
        told = ask(*begin, regret(3, 3), regret(3, 3, 3), regret(*[3] * 2000))
        self.assertEqual(told[2:], [[27, 2, 0, 1]] * 3)
        told = ask(load(WORKED), regret(3, 1), regret(1, 1, 3, 3, 1))
        self.assertEqual(told[1:], [[0, 2, 1, 3]] * 2)

    def test_no_such_grouping(self):
        for column_count in (1, 2, 3, 4):
            text = text_of(column_count, [(1,) * column_count], [(1, 2)])
            most = 2 ** column_count - 1
            told = ask(load(text), regret(most), regret(0), regret(-1), regret(most + 1), regret(MOST), regret(LEAST),
                       regret(0, most + 1), regret(-1, 0), regret(0, 1, MOST), regret(0, 0, 0, 1, 1, -1))
            self.assertEqual(told[1:], [[0, 1, most], [0, 1, 0]] + [[-2]] * 8)

    def test_more_than_two_unlike_ones(self):
        told = ask(load(WORKED), regret(0, 1, 2), regret(3, 1, 3, 0), regret(0, 1, 2, 3), regret(*[2, 1, 0] * 600),
                   regret(0, 1, 0, 1))
        self.assertEqual(told[1:5], [[-5]] * 4)
        self.assertEqual(len(told[5]), 4)

    def test_no_such_grouping_ahead_of_too_many(self):
        told = ask(load(WORKED), regret(0, 1, 2, 4), regret(-1, 0, 1, 2), regret(0, 1, 2, MOST, 3),
                   regret(LEAST, MOST, 7), regret(4, 5, 6), regret(0, 1, 2))
        self.assertEqual(told[1:], [[-2]] * 5 + [[-5]])

    def test_the_two_groupings_of_one_column(self):
        told = ask(load(ONE), regret(0, 1), regret(1, 0, 1), regret(0, 1, 2))
        self.assertEqual(told[1:], [[0, 2, 0, 1], [0, 2, 0, 1], [-2]])

    def test_nothing_to_regret_is_told_to_the_set_itself(self):
        # One row, and changes that cost nothing: no set is dearer than another one.
        text = "columns a, b ; row 1, 1 : 1 ; ask a times 4 ;"
        for kept in plain_sets(2):
            self.assertEqual(ask_last(load(text), bounds([0], [99]), regret(*kept)), [0, len(kept)] + kept)

    def test_the_first_to_which_it_is_that_great(self):
        # Each of 1, 3 and those with them saves 8 each time.
        text = "columns a, b ; " + "row 1, 1 : 1 ; " * 9 + "ask a times 4 ;"
        told = ask(load(text), regret(), regret(2), regret(0, 2), bounds([0], [1]), regret(), changes(1), regret(),
                   regret(0), regret(0, 2))
        self.assertEqual(told[1:4], [[32, 1, 1]] * 3)
        self.assertEqual(told[5], [8, 1, 1])
        self.assertEqual(told[7:], [[6, 1, 1], [8, 1, 1], [10, 1, 1]])

    def test_of_two_sets_by_the_lesser_grouping_then_by_the_other_one(self):
        # A kept answer has 2 lines for one column, 4 for two or three: most is saved by one for one, one for the others.
        rows = [(0, 0, 0), (0, 1, 1), (1, 0, 1), (1, 1, 0)] * 4
        table = (3, rows, [(1, 5), (2, 5), (4, 5)])
        regrets = self.same_as_plain(table, 0, [0, 0, 0], [1, 1, 1])[1]
        self.assertEqual(regrets[0], [3 * 16 - (2 + 4 + 4), 2, 1, 6])

    def test_changes(self):
        told = ask(load(ONE), changes(1), regret(), regret(1), regret(0, 1), changes(1000), regret(), regret(1),
                   regret(0, 1), regret(1, 1), regret(0))
        # 4 times 3 rows, or 4 times 1 line.
        self.assertEqual(told[2:5], [[6, 1, 1], [0, 1, 1], [2, 1, 1]])
        self.assertEqual(told[6:], [[0, 0], [1992, 0], [3992, 0], [1992, 0], [2000, 0]])

    def test_it_may_come_with_high_and_low_ones_mixed(self):
        # 4 rows; a has 1 line, b has 2. Where b is kept, it is regretted most if a is asked at most, b at least.
        rows = [(0, 0), (0, 0), (0, 1), (0, 1)]
        table = (2, rows, [(1, 1), (2, 1)])
        plain, regrets, told_least = self.same_as_plain(table, 8, [2, 3], [10, 20])
        self.assertEqual([plain.sets[2], plain.sets[3]], [[1], [2]])
        self.assertEqual(regrets[3], [(10 * 4 + 3 * 2) - (10 * 1 + 3 * 4), 1, 1])
        # Where a is kept, it is the other way round, and there is more to regret.
        self.assertEqual(regrets[2], [20 * 4 - 20 * 2 + 2 * 1 - 2 * 2, 1, 3])

    def test_a_set_that_no_question_reads(self):
        table = (2, [(0, 0), (0, 1), (1, 1)], [(3, 7), (2, 1)])
        regrets = self.same_as_plain(table, 4, [0, 0], [9, 9])[1]
        self.assertEqual(regrets[1][0], regrets[0][0] + 8)

    def test_no_rows_and_no_questions(self):
        for text in ("columns a, b ; ask a times 9 ; ask times 99 ;", "columns a, b ; row 1, 2 : 3 ;", "columns a, b ;"):
            told = ask(load(text), regret(), regret(2), regret(1, 3), changes(3), regret(), regret(2), regret(3, 1))
            self.assertEqual(told[1:], [[0, 0], [0, 1, 2], [0, 2, 1, 3], [1], [0, 0], [6, 0], [12, 0]])

    def test_no_table(self):
        self.assertEqual(ask(regret(), regret(0), regret(-1), regret(0, 1, 2), least(), bounds([], [])), [[-1]] * 6)


class Least(RegretCase):
    def test_the_first_of_several(self):
        # Keeping costs nothing and saves nothing.
        self.assertEqual(ask_last(load("columns a, b ; row 1, 1 : 1 ; ask a ;"), least()), [0, 0, 0])
        # Both groupings have one line.
        self.assertEqual(ask_last(load("columns a ; row 1 : 1 ; row 1 : 1 ; ask ;"), least()), [0, 1, 0, 1, 0])
        self.assertEqual(ask_last(load(ONE), least()), [0, 1, 1, 1, 1])
        self.assertEqual(ask_last(load(TWO), least()), [0, 1, 3, 1, 3])

    def test_the_first_of_several_with_something_to_regret(self):
        rows = [(0, 0, 0), (0, 1, 1), (1, 0, 1), (1, 1, 0)] * 4
        regrets, told_least = self.same_as_plain((3, rows, [(1, 5), (2, 5), (4, 5)]), 0, [0] * 3, [9] * 3)[1:]
        # With the one of all columns kept, 4 lines are read, where for two columns it could be 2.
        self.assertEqual(told_least, [36, 1, 7, 2, 1, 2])
        sets = plain_sets(3)
        self.assertEqual(regrets[sets.index([0, 7])], [36, 2, 1, 2])
        self.assertEqual(regrets[sets.index([1, 6])], [36, 2, 2, 4])

    def test_bounds_that_are_alike(self):
        told = ask(load(ONE), changes(5), least(), bounds([99], [99]), least(), bounds([0], [0]), least(),
                   bounds([5], [5]), least(), bounds([6], [6]), least())
        self.assertEqual(told[2::2], [[0, 0, 0], [0, 1, 1, 1, 1], [0, 0, 0], [0, 0, 0], [0, 1, 1, 1, 1]])

    def test_bounds_that_are_not(self):
        # Kept it costs 10 and saves 2 each time: nothing kept may be 2 * 8 - 10 dearer, the answer kept 10 - 2 * 2.
        told = ask(load(ONE), changes(5), bounds([2], [8]), regret(), regret(1), least(), bounds([1], [8]), least(),
                   bounds([3], [8]), least())
        self.assertEqual(told[3:], [[6, 1, 1], [6, 0], [6, 0, 1, 1], [1], [6, 0, 1, 1], [1], [4, 1, 1, 0]])

    def test_no_rows_and_no_questions(self):
        for text in ("columns a, b ; ask a times 9 ; ask times 99 ;", "columns a, b ; row 1, 2 : 3 ;", "columns a ;"):
            self.assertEqual(ask(load(text), least(), changes(1000), least())[1:], [[0, 0, 0], [1], [0, 0, 0]])
        told = ask(load("columns a ; ask a ; ask ;"), changes(7), bounds([0, 0], [99, 99]), least())
        self.assertEqual(told[3], [0, 0, 0])

    def test_the_largest_table(self):
        rows = [(number % 3, number // 4, number % 4, number // 8) for number in range(16)]
        questions = [(3, 9), (5, 4), (6, 99), (7, 3), (9, 8), (10, 20), (12, 1), (14, 30)]
        for change_count in (1, 10, 300):
            self.same_as_plain((4, rows, questions), change_count, [0] * 8, [99] * 8)
        self.same_as_plain((4, rows, questions), 40, [0, 5, 10, 0, 3, 2, 50, 1], [99, 5, 90, 20, 4, 80, 60, 99])
        told_least = self.same_as_plain((4, rows, questions), 10, [99] * 8, [99] * 8)[2]
        self.assertEqual(told_least[0], 0)

    def test_the_greatest_regret_there_is(self):
        rows = [(5, 5, 5, 5)] * 16
        told = self.same_as_plain((4, rows, [(15, 99)] * 8), 0, [0] * 8, [99] * 8)[1]
        self.assertEqual(told[0], [15 * 99 * 8, 1, 15])


class ManyTables(RegretCase):
    def test_small_tables(self):
        chosen = random.Random(12)
        for step in range(400):
            table = random_table(chosen, 2)
            low, high = random_bounds(chosen, len(table[2]))
            self.promised(table, chosen.choice([0, 0, 1, 2, 5, 20]), low, high, chosen)

    def test_three_columns(self):
        chosen = random.Random(13)
        for step in range(60):
            table = random_table(chosen, 3, 16)
            low, high = random_bounds(chosen, len(table[2]))
            self.promised(table, chosen.choice([0, 0, 1, 2, 5, 20, 1000]), low, high, chosen)

    def test_four_columns(self):
        chosen = random.Random(14)
        for step in range(12):
            table = random_table(chosen, 4, 16)
            low, high = random_bounds(chosen, len(table[2]))
            self.promised(table, chosen.choice([0, 1, 4, 15, 60]), low, high, chosen)

    def promised(self, table, change_count, low, high, chosen):
        plain, regrets, told_least = self.same_as_plain(table, change_count, low, high)
        greatest = [answer[0] for answer in regrets]
        self.assertEqual(told_least[0], min(greatest))
        for step in range(4):
            often = [chosen.randint(few, many) for few, many in zip(low, high)]
            costs = [plain.cost(place, often) for place in range(len(plain.sets))]
            for own, cost in enumerate(costs):
                self.assertLessEqual(cost, min(costs) + greatest[own])
        if low == high:
            self.assertEqual(told_least[0], 0)
            kept = plain.sets[costs.index(min(costs))]
            self.assertEqual(told_least, ([0] + [len(kept)] + kept + [len(kept)] + kept))

    def test_all_ways_to_choose_a_bound_for_each_question(self):
        chosen = random.Random(15)
        for step in range(80):
            table = random_table(chosen, 2, 8, 4)
            low, high = random_bounds(chosen, len(table[2]))
            change_count = chosen.choice([0, 1, 5])
            plain, regrets, told_least = self.same_as_plain(table, change_count, low, high)
            for own, answer in enumerate(regrets):
                dearer = [plain.dearer_by_all_ways(own, other, low, high) for other in range(len(plain.sets))]
                self.assertEqual(answer[0], max(dearer))

    def test_how_often_each_comes_where_the_text_tells(self):
        chosen = random.Random(16)
        for step in range(150):
            table = random_table(chosen, 3, 16)
            change_count = chosen.choice([0, 1, 5, 30])
            plain = Plain(table, change_count)
            costs = [plain.cost(place, [times for grouping, times in table[2]]) for place in range(len(plain.sets))]
            kept = plain.sets[costs.index(min(costs))]
            told = ask(load(text_of(*table)), changes(change_count), least(), regret())
            self.assertEqual(told[2], [0] + ([len(kept)] + kept) * 2)
            self.assertEqual(told[3], [costs[0] - min(costs), len(kept)] + kept)


if __name__ == "__main__":
    unittest.main()
