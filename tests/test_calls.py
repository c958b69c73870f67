"""readers, changes, the refusals, and the form of what is handed in and given back."""

import unittest

from asking import (
    LEAST, MOST, WORKED, alone, ask, ask_last, bounds, changes, least, load, readers, regret, shares, shown, unhappy,
)
from sharesregrets.shares import answers

# Group 1 pays 15 and group 2 nothing while the readers are as at first; here all differ.
SPREAD = [load(WORKED), readers(0, 1, 2, 3)]
EIGHT = "columns a ; row 1 : 1 ; row 2 : 2 ; " + "ask a ; " * 8


class NoTable(unittest.TestCase):
    def test_every_call_but_load_is_refused(self):
        calls = [shown(), readers(), changes(0), alone(0), shares(), unhappy(), bounds([], []), regret(), least()]
        self.assertEqual(ask(*calls), [[-1]] * 9)

    def test_ahead_of_every_other_refusal(self):
        calls = [readers(4, 5), changes(-1), changes(1001), alone(16), alone(-1), bounds([1], [0, 2]),
                 regret(99), regret(0, 1, 2), changes(MOST), alone(LEAST)]
        self.assertEqual(ask(*calls), [[-1]] * 10)

    def test_the_numbers_of_refused_calls_are_no_calls(self):
        calls = [readers(1, 4, 9), bounds([0, 0, 1], []), bounds([], [0, 1, 2]), bounds([3], [4, 5]), regret(6, 6),
                 load("columns a ;"), alone(5)]
        self.assertEqual(ask(*calls), [[-1]] * 5 + [[1, 1, 0, 0], [0]])

    def test_long_lists(self):
        many = [MOST, LEAST] * 1000
        self.assertEqual(ask(readers(*many), bounds(many, many), regret(*many), shown()), [[-1]] * 4)

    def test_nothing_told_ahead_of_a_table_is_held(self):
        told = ask(changes(5), readers(1, 1, 1, 1), load(WORKED), alone(1), alone(2))
        self.assertEqual(told, [[-1], [-1], [1, 2, 5, 4], [15], [0]])


class Readers(unittest.TestCase):
    def test_worked_example(self):
        self.assertEqual(ask_last(load(WORKED), readers(0, 0, 1, 1)), [1])

    def test_all_belong_to_reader_0_at_first(self):
        told = ask(load(WORKED), alone(1), alone(14), readers(0, 0, 0, 0), alone(1), alone(14))
        self.assertEqual(told[1:], [[15], [0], [1], [15], [0]])

    def test_each_reader(self):
        told = ask(*SPREAD, alone(1), alone(2), alone(4), alone(8))
        self.assertEqual(told[1:], [[1], [6], [2], [6], [1]])
        told = ask(load(WORKED), readers(3, 2, 1, 0), alone(1), alone(2), alone(4), alone(8))
        self.assertEqual(told[1:], [[1], [1], [6], [2], [6]])

    def test_no_questions(self):
        told = ask(load("columns a ; row 1 : 1 ;"), readers(), readers(0), alone(15))
        self.assertEqual(told[1:], [[1], [-3], [0]])

    def test_eight_questions(self):
        told = ask(load(EIGHT), readers(0, 1, 2, 3, 0, 1, 2, 3), readers(*[0] * 7), readers(*[0] * 9), alone(1))
        self.assertEqual(told[1:], [[1], [-3], [-3], [4]])

    def test_too_few_and_too_many(self):
        for numbers in ([], [0], [0, 0, 0], [0, 0, 0, 0, 0], [0] * 8, [0] * 2000):
            self.assertEqual(ask_last(load(WORKED), readers(*numbers)), [-3], len(numbers))

    def test_not_from_0_to_3(self):
        for number in (-1, 4, 5, 15, LEAST, MOST):
            for place in range(4):
                numbers = [0, 1, 2, 3]
                numbers[place] = number
                self.assertEqual(ask_last(load(WORKED), readers(*numbers)), [-3], numbers)

    def test_a_refusal_leaves_the_object_as_it_was(self):
        for numbers in ([3, 3, 3], [3, 3, 3, 3, 3], [3, 3, 3, 4], [3, 3, 3, -1], [4, 3, 3, 3], [MOST, 0, 0, 0]):
            told = ask(*SPREAD, readers(*numbers), alone(1), alone(2), alone(4), alone(8))
            self.assertEqual(told[2:], [[-3], [6], [2], [6], [1]])

    def test_the_last_ones_told_hold(self):
        told = ask(*SPREAD, readers(2, 2, 2, 2), alone(11), alone(4))
        self.assertEqual(told[2:], [[1], [0], [15]])


class Changes(unittest.TestCase):
    def test_worked_example(self):
        self.assertEqual(ask_last(load(WORKED), changes(1)), [1])

    def test_none_at_first(self):
        self.assertEqual(ask(load(WORKED), alone(1), changes(0), alone(1))[1:], [[15], [1], [15]])

    def test_edges(self):
        told = ask(load(WORKED), changes(1000), changes(1001), changes(0), changes(-1))
        self.assertEqual(told[1:], [[1], [-4], [1], [-4]])

    def test_far_off(self):
        self.assertEqual(ask(load(WORKED), changes(MOST), changes(LEAST))[1:], [[-4], [-4]])

    def test_a_refusal_leaves_the_object_as_it_was(self):
        for wrong in (-1, 1001, MOST, LEAST):
            told = ask(load(WORKED), readers(0, 0, 1, 1), changes(1), changes(wrong), alone(1), alone(2), alone(3))
            self.assertEqual(told[3:], [[-4], [12], [11], [21]])

    def test_readers_stay_and_changes_stay(self):
        told = ask(load(WORKED), changes(1), readers(0, 0, 1, 1), alone(1), changes(0), alone(1), alone(2))
        self.assertEqual(told[3:], [[12], [1], [8], [7]])


class GroupRefusals(unittest.TestCase):
    def test_edges(self):
        told = ask(load(WORKED), alone(0), alone(15), alone(16), alone(-1), alone(MOST), alone(LEAST), alone(15))
        self.assertEqual(told[1:], [[0], [15], [-2], [-2], [-2], [-2], [15]])


class FormOfLists(unittest.TestCase):
    def test_numbers_as_they_stand(self):
        text = list(b"columns a ; row 1 : -5 ; ask a times 2 ;")
        form = list(b"columns a ;\nrow 1 : -5 ;\nask a times 2 ;\n")
        calls = [1, 0, len(text)] + text + [1, 2, 1, 3, 3, 1, 4, 8, 4, 16, 3, -1, 2, 0, 0, 2, 63, 63]
        self.assertEqual(answers(calls), (
            [1, -1] + [4, 1, 1, 1, 1] + [1 + len(form), len(form)] + form
            + [1, 1] + [1, 1] + [1, 2] + [1, -2] + [1, -4] + [1, -3] + [3, 0, 2, 0]
        ))

    def test_what_is_handed_in_stays(self):
        calls = [number for call in SPREAD + [changes(2), load(""), alone(15), shown()] for number in call]
        before = list(calls)
        answers(calls)
        self.assertEqual(calls, before)

    def test_what_is_given_back_is_new_each_time(self):
        calls = load(WORKED) + shown()
        first = answers(calls)
        kept = list(first)
        first.append(0)
        self.assertEqual(answers(calls), kept)

    def test_two_lists_behind_one_another(self):
        told = ask(*SPREAD, changes(3), alone(15), shown())
        self.assertEqual(ask(shown(), alone(0)), [[-1], [-1]])
        self.assertEqual(ask(*SPREAD, changes(3), alone(15), shown()), told)
        self.assertEqual(ask(load(WORKED), alone(1)), [[1, 2, 5, 4], [15]])

    def test_whole_numbers_alone(self):
        calls = [load(WORKED), load("columns a, a ;"), shown(), readers(0, 0, 1, 1), changes(1), alone(1), alone(16)]
        given = answers([number for call in calls for number in call])
        self.assertEqual({type(number) for number in given}, {int})

    def test_twenty_calls(self):
        told = ask(load(WORKED), *[call for c in range(9) for call in (changes(c), shown())], alone(0))
        self.assertEqual(len(told), 20)
        self.assertEqual(told[1::2], [[1]] * 9 + [[0]])

    def test_the_longest_texts(self):
        told = ask(load(" " * 8192), load("columns a ;" + " " * 4085), load([255] * 4000), alone(0))
        self.assertEqual(told, [[0, 1, 4096], [1, 1, 0, 0], [0, 2, 0], [0]])


if __name__ == "__main__":
    unittest.main()
