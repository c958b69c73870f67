"""alone: compared with the least of all sets of kept answers, gone through plainly."""

import random
import unittest

from asking import WORKED, alone, ask, changes, load, plain_all_groups, random_table, readers, text_of


class AloneCase(unittest.TestCase):
    def all_groups(self, column_count, rows, questions, belongs, change_count):
        told = ask(load(text_of(column_count, rows, questions)), readers(*belongs), changes(change_count),
                   *[alone(group) for group in range(16)])
        self.assertEqual(told[:3], [[1, column_count, len(rows), len(questions)], [1], [1]])
        return [answer[0] for answer in told[3:] if len(answer) == 1]

    def same_as_plain(self, column_count, rows, questions, belongs, change_count):
        told = self.all_groups(column_count, rows, questions, belongs, change_count)
        plain = plain_all_groups(column_count, rows, questions, belongs, change_count)
        self.assertEqual(told, plain, (column_count, rows, questions, belongs, change_count))
        return told


class WorkedExample(AloneCase):
    def test_with_one_change(self):
        told = ask(load(WORKED), readers(0, 0, 1, 1), changes(1), alone(1), alone(2), alone(3))
        self.assertEqual(told, [[1, 2, 5, 4], [1], [1], [12], [11], [21]])

    def test_without_changes(self):
        told = ask(load(WORKED), readers(0, 0, 1, 1), alone(0), alone(1), alone(2), alone(3), alone(4), alone(15))
        self.assertEqual(told[2:], [[0], [8], [7], [15], [0], [15]])

    def test_it_is_the_least_of_all_sets(self):
        rows = [(0, 0), (0, 1), (1, 0), (1, 0), (0, 0)]
        questions = [(1, 3), (2, 1), (3, 2), (0, 1)]
        for change_count in (0, 1, 2, 3, 5, 8, 1000):
            self.same_as_plain(2, rows, questions, [0, 0, 1, 1], change_count)


class HowManyAreKept(AloneCase):
    ROWS = [(0, 0), (0, 1), (0, 2), (1, 0), (1, 1), (1, 2), (0, 0), (1, 2)]

    def pays(self, questions, change_count):
        return self.same_as_plain(2, self.ROWS, questions, [0] * len(questions), change_count)[1]

    def test_none(self):
        # 8 rows read once and twice; keeping the one answer of 2 lines would cost 40 for the changes.
        self.assertEqual(self.pays([(1, 3)], 20), 24)
        self.assertEqual(self.pays([(1, 1), (2, 1), (3, 1)], 1000), 24)

    def test_one(self):
        self.assertEqual(self.pays([(1, 3)], 2), 3 * 2 + 4)

    def test_one_that_serves_two_and_answers_neither_by_itself(self):
        rows = [(0, 0)] * 12 + [(1, 1), (2, 2), (3, 3), (3, 0)]
        told = self.same_as_plain(2, rows, [(1, 5), (2, 5)], [0, 1], 6)
        # Together 5 lines of both columns; alone each its own 4.
        self.assertEqual(told[:4], [0, 20 + 12, 20 + 12, 50 + 12])

    def test_several(self):
        self.assertEqual(self.pays([(1, 10), (2, 10)], 3), 20 + 30 + 12)
        self.assertEqual(self.pays([(1, 10), (2, 10), (3, 10)], 3), 20 + 30 + 60 + 18)
        self.assertEqual(self.pays([(0, 9), (1, 9), (2, 9), (3, 9)], 1), 9 + 18 + 27 + 54 + 8)

    def test_one_is_as_dear_as_none(self):
        self.assertEqual(self.pays([(1, 1)], 3), 8)
        self.assertEqual(self.pays([(1, 1)], 2), 6)
        self.assertEqual(self.pays([(1, 1)], 4), 8)

    def test_what_two_questions_read_alike_is_paid_once(self):
        self.assertEqual(self.pays([(1, 2), (1, 3)], 4), 5 * 2 + 8)

    def test_a_question_reads_the_least_of_what_is_kept(self):
        # For the question of all columns 6 lines are kept anyhow, yet the single column has its own 2.
        self.assertEqual(self.pays([(1, 20), (3, 20)], 5), 20 * 2 + 20 * 6 + 20)

    def test_without_changes_each_question_reads_its_own(self):
        self.assertEqual(self.pays([(0, 1), (1, 1), (2, 1), (3, 1)], 0), 1 + 2 + 3 + 6)


class Edges(AloneCase):
    def test_no_rows(self):
        for change_count in (0, 1, 1000):
            questions = [(0, 5), (1, 99), (3, 1)]
            self.assertEqual(self.same_as_plain(2, [], questions, [0, 1, 2], change_count), [0] * 16)

    def test_no_questions(self):
        for change_count in (0, 7):
            self.assertEqual(self.same_as_plain(2, [(1, 2), (3, 4)], [], [], change_count), [0] * 16)

    def test_a_group_without_questions_pays_nothing(self):
        told = self.same_as_plain(1, [(0,), (1,), (2,)], [(1, 4)], [2], 1000)
        self.assertEqual(told, [0, 0, 0, 0, 12, 12, 12, 12] * 2)

    def test_grouped_by_no_columns(self):
        self.assertEqual(self.same_as_plain(1, [(0,), (1,), (2,)], [(0, 10)], [0], 1)[1], 10 + 2)
        self.assertEqual(self.same_as_plain(1, [(5,)], [(0, 10)], [0], 1)[1], 10)

    def test_what_is_summed_does_not_matter(self):
        text = "columns a ; row 1 : 1000 ; row 1 : -1000 ; row 1 : 0 ; ask a times 4 ;"
        self.assertEqual(ask(load(text), alone(1), changes(3), alone(1))[1:], [[4], [1], [10]])

    def test_sixteen_groups_in_order(self):
        rows = [(number,) for number in range(8)]
        questions = [(1, 1), (1, 2), (1, 4), (1, 8)]
        told = self.same_as_plain(1, rows, questions, [0, 1, 2, 3], 0)
        self.assertEqual(told, [8 * group for group in range(16)])


class ManyTables(AloneCase):
    def test_small_tables(self):
        chosen = random.Random(2)
        for step in range(250):
            column_count, rows, questions = random_table(chosen)
            belongs = [chosen.randint(0, 3) for question in questions]
            told = self.same_as_plain(column_count, rows, questions, belongs, chosen.choice([0, 1, 2, 3, 5, 9]))
            self.two_pay_no_more_together(told)

    def test_two_pay_no_more_together_than_both_alone(self):
        chosen = random.Random(3)
        for step in range(300):
            column_count, rows, questions = random_table(chosen, 4, 16)
            belongs = [chosen.randint(0, 3) for question in questions]
            change_count = chosen.choice([0, 1, 4, 12, 40, 1000])
            self.two_pay_no_more_together(self.all_groups(column_count, rows, questions, belongs, change_count))

    def two_pay_no_more_together(self, told):
        for one in range(16):
            for other in range(16):
                if one & other == 0:
                    self.assertLessEqual(told[one | other], told[one] + told[other])

    def test_the_largest_table(self):
        rows = [(number % 10, number // 4, number % 4, number % 2) for number in range(16)]
        questions = [(1, 99), (2, 3), (4, 7), (8, 12), (6, 5), (12, 2), (15, 1), (0, 4)]
        belongs = [0, 1, 2, 3, 0, 1, 2, 3]
        for change_count in (3, 20):
            told = self.same_as_plain(4, rows, questions, belongs, change_count)
            self.two_pay_no_more_together(told)

    def test_the_largest_table_for_one_reader(self):
        rows = [(number % 3, number // 4, number % 4, number // 8) for number in range(16)]
        questions = [(3, 9), (5, 4), (6, 99), (7, 3), (9, 8), (10, 20), (12, 1), (14, 30)]
        told = self.same_as_plain(4, rows, questions, [1] * 8, 10)
        self.assertEqual(told[1::4] + told[0::4], [0] * 8)


if __name__ == "__main__":
    unittest.main()
