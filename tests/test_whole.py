"""The whole program: all ten calls on one object, and what holds from one to the next."""

import random
import unittest

from asking import (
    LEAST, MOST, WORKED, alone, ask, ask_last, bounds, changes, least, load, random_table, readers, regret, shares,
    shown, text_of, unhappy,
)
from sharesregrets.shares import answers

WORKED_FORM = (
    "columns city, kind ;\nrow 0, 0 : 5 ;\nrow 0, 1 : 2 ;\nrow 1, 0 : 4 ;\nrow 1, 0 : -1 ;\nrow 0, 0 : 1 ;\n"
    "ask city times 3 ;\nask kind ;\nask city, kind times 2 ;\nask ;\n"
)
WORKED_CALLS = [
    (load(WORKED), [1, 2, 5, 4]),
    (least(), [0, 2, 1, 3, 2, 1, 3]),
    (readers(0, 0, 1, 1), [1]),
    (changes(1), [1]),
    (alone(1), [12]),
    (alone(2), [11]),
    (alone(3), [21]),
    (shares(), [21, 11, 1, 10, 1, 0, 1, 0, 1]),
    (unhappy(), [0]),
    (changes(0), [1]),
    (bounds([0, 0, 0, 0], [9, 9, 9, 9]), [1]),
    (regret(3), [27, 2, 0, 1]),
    (least(), [18, 2, 0, 3, 2, 1, 2]),
]
ASKED = [shown(), alone(1), alone(2), alone(15), shares(), unhappy(), regret(), regret(1, 3), least()]
REFUSED = [
    (load("columns a, a ;"), [0, 5, 11]),
    (readers(3, 3, 3), [-3]),
    (readers(3, 3, 3, 4), [-3]),
    (changes(1001), [-4]),
    (alone(16), [-2]),
    (bounds([1, 1, 1, 1], [2, 2, 2]), [-3]),
    (bounds([1, 1, 1, 3], [2, 2, 2, 2]), [-3]),
    (regret(4, 0, 1, 2), [-2]),
    (regret(0, 1, 2), [-5]),
]


class WorkedExample(unittest.TestCase):
    def test_each_call_in_its_order(self):
        self.assertEqual(ask(*[call for call, answer in WORKED_CALLS]), [answer for call, answer in WORKED_CALLS])

    def test_with_the_one_form_in_its_place(self):
        calls = [load(WORKED_FORM)] + [call for call, answer in WORKED_CALLS[1:]] + [shown()]
        form = [ord(sign) for sign in WORKED_FORM]
        self.assertEqual(ask(*calls), [answer for call, answer in WORKED_CALLS] + [[len(form)] + form])

    def test_number_by_number(self):
        text = [ord(sign) for sign in WORKED]
        calls = [0, len(text)] + text + [9, 2, 4, 0, 0, 1, 1, 3, 1, 4, 1, 4, 2, 4, 3, 5, 6, 3, 0]
        calls += [7, 4, 0, 0, 0, 0, 4, 9, 9, 9, 9, 8, 1, 3, 9]
        self.assertEqual(answers(calls), (
            [4, 1, 2, 5, 4] + [7, 0, 2, 1, 3, 2, 1, 3] + [1, 1, 1, 1] + [1, 12, 1, 11, 1, 21]
            + [9, 21, 11, 1, 10, 1, 0, 1, 0, 1] + [1, 0] + [1, 1, 1, 1] + [4, 27, 2, 0, 1] + [7, 18, 2, 0, 3, 2, 1, 2]
        ))


class AllTenCalls(unittest.TestCase):
    def test_refusals_among_them_change_nothing(self):
        begin = [load(WORKED), readers(0, 0, 1, 2), changes(2), bounds([0, 1, 2, 3], [9, 8, 7, 6])]
        plain = ask(*begin, *ASKED)[4:]
        for call, answer in REFUSED:
            told = ask(*begin, call, *ASKED)
            self.assertEqual(told[4], answer)
            self.assertEqual(told[5:], plain, call)
        for asked, answer in zip(ASKED, plain):
            told = ask(*begin, *[call for call, answer in REFUSED], asked)
            self.assertEqual(told[4:-1], [answer for call, answer in REFUSED])
            self.assertEqual(told[-1], answer)

    def test_what_is_asked_changes_nothing(self):
        begin = [load(WORKED), readers(0, 0, 1, 2), changes(2), bounds([0, 1, 2, 3], [9, 8, 7, 6])]
        plain = ask(*begin, *ASKED)[4:]
        for call in ASKED:
            self.assertEqual(ask(*begin, call, *ASKED)[5:], plain)
        self.assertEqual(ask(*begin, *reversed(ASKED))[4:], plain[::-1])

    def test_a_right_text_sets_all_else_back(self):
        told = ask(load(WORKED), *ASKED)
        again = ask(load("columns a ; ask a ;"), readers(3), changes(9), bounds([2], [3]), load(WORKED), *ASKED)
        self.assertEqual(again[4:], told)
        again = ask(load(WORKED), readers(3, 2, 1, 0), changes(9), bounds([2] * 4, [3] * 4), load(WORKED), *ASKED)
        self.assertEqual(again[4:], told)
        for call in (readers(3, 2, 1, 0), changes(9), bounds([2] * 4, [3] * 4)):
            self.assertNotEqual(ask(load(WORKED), call, *ASKED)[2:], told[1:])
            self.assertEqual(ask(load(WORKED), call, load(WORKED), *ASKED)[2:], told)

    def test_lists_that_fit_the_table_before(self):
        told = ask(load(WORKED), load("columns a ; ask a ;"), readers(0, 0, 0, 0), bounds([0] * 4, [9] * 4), regret(2),
                   regret(1), readers(2), bounds([0], [9]))
        self.assertEqual(told[2:], [[-3], [-3], [-2], [0, 1, 1], [1], [1]])

    def test_a_table_without_anything(self):
        told = ask(load("columns a ;"), *ASKED[:-2], least(), readers(), bounds([], []), changes(1000), *ASKED[1:-2],
                   least())
        form = [ord(sign) for sign in "columns a ;\n"]
        nothing = [[0], [0], [0], [0, 0, 1, 0, 1, 0, 1, 0, 1], [0], [0, 0], [0, 0, 0]]
        self.assertEqual(told, [[1, 1, 0, 0], [12] + form] + nothing + [[1]] * 3 + nothing)


class WhatIsHandedIn(unittest.TestCase):
    ALL = [call for call, answer in WORKED_CALLS[1:] + REFUSED[:7]]

    def test_it_stays_as_it_was(self):
        calls = [number for call in [load(WORKED)] + self.ALL for number in call]
        before = list(calls)
        answers(calls)
        self.assertEqual(calls, before)

    def test_two_lists_one_behind_the_other(self):
        first = ask(load(WORKED), *self.ALL)
        self.assertEqual(ask(shown(), readers(), changes(0), alone(0), shares(), unhappy(), bounds([], []), regret(),
                             least()), [[-1]] * 9)
        self.assertEqual(ask(load(WORKED), *ASKED), ask(load(WORKED_FORM), *ASKED))
        self.assertEqual(ask(load(WORKED), *self.ALL), first)

    def test_whole_numbers_alone(self):
        given = answers([number for call in [load(WORKED)] + self.ALL for number in call])
        self.assertEqual({type(number) for number in given}, {int})

    def test_what_is_given_back_is_new_each_time(self):
        calls = load(WORKED) + bounds([0] * 4, [9] * 4) + shares() + least()
        first = answers(calls)
        kept = list(first)
        first.clear()
        self.assertEqual(answers(calls), kept)


class ManyCalls(unittest.TestCase):
    """Each answer is as if only what was told last, and was not refused, had been told ahead of it."""

    def list_of(self, chosen, count):
        least_number, most_number = chosen.choice([(0, 0), (0, 3), (0, 3), (0, 15), (-1, 100), (LEAST, MOST)])
        return [chosen.randint(least_number, most_number) for place in range(count)]

    def text(self, chosen):
        text = text_of(*random_table(chosen, 4, 16))
        if chosen.random() < 0.2:
            place = chosen.randrange(len(text))
            text = text[:place] + chosen.choice("?;,0 a") + text[place:]
        return text

    def call(self, chosen, question_count):
        count = chosen.choice([question_count] * 6 + [0, 1, 2, 9, 2000])
        low = self.list_of(chosen, count)
        groupings = self.list_of(chosen, chosen.choice([0, 1, 1, 2, 2, 2, 3, 5]))
        number = chosen.choice([-1, 0, 1, 2, 7, 15, 16, 1000, 1001, LEAST, MOST])
        return chosen.choice([
            load(self.text(chosen)), shown(), readers(*low), readers(*low), changes(number), changes(number),
            alone(number), shares(), unhappy(), bounds(low, self.list_of(chosen, count)),
            bounds(low, [number + chosen.choice([0, 1, 5]) for number in low if number < MOST - 9]),
            regret(*groupings), regret(*groupings), least(),
        ])

    def check(self, chosen):
        calls = []
        question_count = 0
        while len(calls) < 20 and sum(len(call) for call in calls) < 8000:
            calls.append(load(self.text(chosen)) if not calls else self.call(chosen, question_count))
            if calls[-1][0] == 0:
                loaded = ask_last(calls[-1])
                question_count = loaded[3] if loaded[0] == 1 else question_count
        holding = {}
        for call, answer in zip(calls, ask(*calls)):
            kind = call[0]
            self.assertEqual(ask_last(*holding.values(), call), answer)
            if kind == 0 and answer[0] == 1:
                holding = {0: call}
            elif kind in (2, 3, 7) and answer == [1]:
                holding[kind] = call

    def test_calls_of_every_kind(self):
        chosen = random.Random(21)
        for step in range(120):
            self.check(chosen)

    def test_twenty_of_the_longest_answers(self):
        names = ["abcdefghijklmno" + letter for letter in "wxyz"]
        text = "columns " + ", ".join(names) + " ; " + "row 9, 8, 7, 6 : -1000 ; " * 16
        text += ("ask " + ", ".join(names) + " times 99 ; ") * 8
        for call in (shown(), shares(), unhappy(), least(), regret(0, 15)):
            told = ask(load(text), *[call] * 19)
            self.assertEqual(told[1:], [told[1]] * 19)
            self.assertLess(len(told[1]), 5000)

    def test_the_longest_lists(self):
        many = [MOST, LEAST] * 1000
        told = ask(load(WORKED), readers(*many), bounds(many, many), regret(*many), regret(*[3] * 2000), shares())
        self.assertEqual(told[1:4], [[-3], [-3], [-2]])
        # 3 lines 7 times, where it could be 2 lines 4 times (by city, and in all) and 3 lines 3 times.
        self.assertEqual(told[4:], [[21 - 17, 2, 1, 3], [15, 15, 1, 0, 1, 0, 1, 0, 1]])


if __name__ == "__main__":
    unittest.main()
