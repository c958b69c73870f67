"""shown: the one form."""

import unittest

from asking import WORKED, ask, ask_last, form_of, load, shown


class OneForm(unittest.TestCase):
    def test_worked_example(self):
        self.assertEqual(form_of(WORKED), (
            "columns city, kind ;\n"
            "row 0, 0 : 5 ;\n"
            "row 0, 1 : 2 ;\n"
            "row 1, 0 : 4 ;\n"
            "row 1, 0 : -1 ;\n"
            "row 0, 0 : 1 ;\n"
            "ask city times 3 ;\n"
            "ask kind ;\n"
            "ask city, kind times 2 ;\n"
            "ask ;\n"
        ))

    def test_worked_example_number_by_number(self):
        form = form_of(WORKED)
        self.assertEqual(len(form), 158)
        self.assertEqual(ask_last(load(WORKED), shown()), [158] + [ord(sign) for sign in form])

    def test_columns_alone(self):
        self.assertEqual(form_of("columns a;"), "columns a ;\n")
        self.assertEqual(form_of("columns d,c\n,b,a#\n;"), "columns d, c, b, a ;\n")

    def test_rows_alone_and_questions_alone(self):
        self.assertEqual(form_of("columns a;row 9:7;"), "columns a ;\nrow 9 : 7 ;\n")
        self.assertEqual(form_of("columns a;ask a;"), "columns a ;\nask a ;\n")

    def test_rows_stand_ahead_of_questions(self):
        self.assertEqual(
            form_of("columns a ; ask a ; row 2 : 1 ; ask ; row 1 : 2 ; ask a times 5 ;"),
            "columns a ;\nrow 2 : 1 ;\nrow 1 : 2 ;\nask a ;\nask ;\nask a times 5 ;\n",
        )

    def test_times(self):
        head = "columns a ;\n"
        self.assertEqual(form_of("columns a ; ask a times 1 ;"), head + "ask a ;\n")
        self.assertEqual(form_of("columns a ; ask a times 2 ;"), head + "ask a times 2 ;\n")
        self.assertEqual(form_of("columns a ; ask a times 99 ;"), head + "ask a times 99 ;\n")
        self.assertEqual(form_of("columns a ; ask times 1 ;"), head + "ask ;\n")
        self.assertEqual(form_of("columns a ; ask times 10 ;"), head + "ask times 10 ;\n")

    def test_columns_asked_in_another_order(self):
        head = "columns z, y, x, w ;\n"
        self.assertEqual(form_of(head + "ask w, x, y, z ;"), head + "ask z, y, x, w ;\n")
        self.assertEqual(form_of(head + "ask w, z times 3 ;"), head + "ask z, w times 3 ;\n")
        self.assertEqual(form_of(head + "ask x, y ;"), head + "ask y, x ;\n")

    def test_what_is_summed(self):
        for told, form in (("0", "0"), ("-0", "0"), ("- 0", "0"), ("-1", "-1"), ("-\n#x\n7", "-7"),
                           ("1000", "1000"), ("-1000", "-1000")):
            self.assertEqual(form_of(f"columns a ; row 3 : {told} ;"), f"columns a ;\nrow 3 : {form} ;\n")

    def test_remarks_are_not_told(self):
        self.assertEqual(form_of("#x\ncolumns#\n a ;#y\n\t#\xff"), "columns a ;\n")

    def test_the_one_form_is_its_own(self):
        form = form_of(WORKED)
        self.assertEqual(form_of(form), form)

    def test_the_largest_table(self):
        names = ["abcdefghijklmno" + letter for letter in "wxyz"]
        text = "columns " + ", ".join(names) + " ;\n"
        text += "row 9, 9, 9, 9 : -1000 ;\n" * 16
        text += ("ask " + ", ".join(names) + " times 99 ;\n") * 8
        self.assertEqual(form_of(text), text)

    def test_shown_twice_is_the_same(self):
        told = ask(load(WORKED), shown(), shown())
        self.assertEqual(told[1], told[2])

    def test_no_table(self):
        self.assertEqual(ask(shown(), load(""), shown()), [[-1], [0, 3, 0], [-1]])


if __name__ == "__main__":
    unittest.main()
