"""load: which texts are right tables, the faults, and what is held afterwards."""

import re
import unittest

from asking import WORKED, alone, ask, ask_last, changes, load, readers, shown

HEAD = "columns a, b ; "
FOUR = "columns a, b, c, d ; "
ROW = "row 1, 2 : 3 ; "


class LoadCase(unittest.TestCase):
    def right(self, text, columns, rows, questions):
        self.assertEqual(ask_last(load(text)), [1, columns, rows, questions], text)

    def fault(self, code, marked):
        """The sign @ stands ahead of the fault's place, and is no part of the text."""
        place = marked.index("@")
        text = marked[:place] + marked[place + 1:]
        self.assertEqual(ask_last(load(text)), [0, code, place], text)


class RightTables(LoadCase):
    def test_worked_example(self):
        self.right(WORKED, 2, 5, 4)

    def test_columns_alone(self):
        self.right("columns a ;", 1, 0, 0)
        self.right("columns a, b ;", 2, 0, 0)
        self.right("columns a, b, c ;", 3, 0, 0)
        self.right("columns a, b, c, d ;", 4, 0, 0)

    def test_rows_without_questions_and_questions_without_rows(self):
        self.right(HEAD + ROW, 2, 1, 0)
        self.right(HEAD + "ask a ;", 2, 0, 1)

    def test_rows_and_questions_mixed(self):
        self.right(HEAD + "ask ; " + ROW + "ask a ; ask b ; " + ROW * 2 + "ask b, a times 2 ;", 2, 3, 4)

    def test_as_many_as_there_may_be(self):
        self.right(FOUR + "row 1, 2, 3, 4 : 5 ; " * 16 + "ask d, c, b, a times 99 ; " * 8, 4, 16, 8)

    def test_questions_without_columns(self):
        self.right(HEAD + "ask ;", 2, 0, 1)
        self.right(HEAD + "ask times 2 ;", 2, 0, 1)
        self.right(HEAD + "ask times 1 ;", 2, 0, 1)

    def test_numbers_at_their_edges(self):
        for value in ("0", "9"):
            self.right(f"columns a ; row {value} : 0 ;", 1, 1, 0)
        for summed in ("0", "-0", "1000", "-1000", "- 1000", "-#x\n1000"):
            self.right(f"columns a ; row 0 : {summed} ;", 1, 1, 0)
        for times in ("1", "99"):
            self.right(f"columns a ; ask a times {times} ;", 1, 0, 1)

    def test_names(self):
        self.right("columns " + "n" * 16 + " ;", 1, 0, 0)
        self.right("columns A, Z, a, z ; ask z, Z ;", 4, 0, 1)
        self.right("columns a0, a00, b9Z ;", 3, 0, 0)
        self.right("columns a, A ; ask A, a ;", 2, 0, 1)

    def test_words_within_names_and_in_other_letters_are_names(self):
        self.right("columns Columns, rows, asks, time ;", 4, 0, 0)
        self.right("columns ROW, ask1, timesx, column ; ask timesx times 2 ;", 4, 0, 1)

    def test_tokens_need_no_gap_between_signs(self):
        self.right("columns a,b;row 1,2:-3;ask a,b times 2;ask;", 2, 1, 2)

    def test_a_number_ends_where_a_name_begins(self):
        self.right("columns a;ask a times 2;row 1:2;", 1, 1, 1)
        self.fault(3, "columns a ; row 1@x : 2 ;")
        self.fault(3, "columns a ; ask times 2@times ;")

    def test_gaps_at_every_place(self):
        pieces = re.findall(r"\w+|\S", WORKED)
        for gap in (" ", "\t", "\n", " \t\n ", "#\n", "# columns ; 00 _ \xff#\n", "\n#x\n#y\n"):
            self.right(gap + gap.join(pieces) + gap, 2, 5, 4)

    def test_a_gap_at_each_single_place(self):
        pieces = re.findall(r"\w+|\S", WORKED)
        for place in range(len(pieces) + 1):
            text = " ".join(pieces[:place]) + " # row @ 00\n\t" + " ".join(pieces[place:])
            self.right(text, 2, 5, 4)

    def test_a_remark_ends_at_the_end(self):
        self.right("columns a ;#", 1, 0, 0)
        self.right("columns a ; # row 1 : 1 ;", 1, 0, 0)

    def test_a_remark_may_have_any_byte_but_a_line_end(self):
        remark = [byte for byte in range(256) if byte != 10]
        self.right([35] + remark + [10] + list(b"columns a ;") + [35] + remark, 1, 0, 0)

    def test_a_remark_parts_tokens(self):
        self.right("columns#\na#\n;", 1, 0, 0)
        self.fault(3, "columns a#\n@a ;")

    def test_length_at_its_edge(self):
        text = "columns a ;"
        self.right(text + " " * (4096 - len(text)), 1, 0, 0)
        self.right("#" * (4095 - len(text)) + "\n" + text, 1, 0, 0)


class Fault1(LoadCase):
    def test_too_many_bytes(self):
        for count in (4097, 4098, 8192):
            text = "columns a ;"
            self.assertEqual(ask_last(load(text + " " * (count - len(text)))), [0, 1, 4096])

    def test_ahead_of_every_other_fault(self):
        self.assertEqual(ask_last(load("@" + " " * 4096)), [0, 1, 4096])
        self.assertEqual(ask_last(load("row" + " " * 4094)), [0, 1, 4096])
        self.assertEqual(ask_last(load([0] * 4097)), [0, 1, 4096])

    def test_not_with_as_many_as_there_may_be(self):
        self.assertEqual(ask_last(load([0] * 4096)), [0, 2, 0])
        self.assertEqual(ask_last(load(" " * 4096)), [0, 3, 4096])
        self.assertEqual(ask_last(load("columns a ; row" + " " * 4081)), [0, 3, 4096])


class Fault2(LoadCase):
    def test_every_byte_that_begins_no_token(self):
        plain = [ord(sign) for sign in ",:;-#"] + [9, 10, 32]
        letters = list(range(48, 58)) + list(range(65, 91)) + list(range(97, 123))
        begin = list(b"columns a ;")
        for byte in range(256):
            if byte not in plain and byte not in letters:
                self.assertEqual(ask_last(load([byte] + begin)), [0, 2, 0], byte)
                self.assertEqual(ask_last(load(begin + [byte])), [0, 2, 11], byte)
                self.assertEqual(ask_last(load(list(b"columns a") + [byte] + list(b"b ;"))), [0, 2, 9], byte)
            if byte in letters:
                self.assertEqual(ask_last(load(begin + [byte])), [0, 3, 11], byte)

    def test_bytes_that_end_a_line_elsewhere(self):
        for byte in (0, 11, 12, 13, 133, 160):
            self.assertEqual(ask_last(load(list(b"columns a") + [byte] + list(b";"))), [0, 2, 9], byte)

    def test_names_too_long(self):
        self.fault(2, "columns @" + "n" * 17 + " ;")
        self.fault(2, "columns a ; ask @" + "a1" * 8 + "z ;")
        self.fault(2, "columns @" + "n" * 4000 + " ;")
        self.fault(2, "columns a ; @row45678901234567 1 : 1 ;")
        self.fault(2, "columns a, b, c, d, e, @abcdefghijklmnopq")

    def test_numbers_too_great(self):
        self.fault(7, "columns a ; row @1000000000 : 1 ;")
        self.fault(2, "columns a ; row @1000000001 : 1 ;")
        self.fault(2, "columns a ; row @9999999999 : 1 ;")
        self.fault(2, "columns a ; row @10000000000 : 1 ;")
        self.fault(7, "columns a ; row 1 : @1000000000 ;")
        self.fault(2, "columns a ; row 1 : -@1000000001 ;")
        self.fault(7, "columns a ; ask times @1000000000 ;")
        self.fault(2, "columns a ; ask times @1000000001 ;")
        self.fault(2, "columns a ; ask times @" + "9" * 4000 + " ;")

    def test_needless_zeros(self):
        self.fault(2, "columns a ; row @00 : 1 ;")
        self.fault(2, "columns a ; row @01 : 1 ;")
        self.fault(2, "columns a ; row 1 : @007 ;")
        self.fault(2, "columns a ; row 1 : -@00 ;")
        self.fault(2, "columns a ; ask a times @01 ;")
        self.fault(2, "columns a ; ask a times @" + "0" * 300 + "1 ;")

    def test_the_first_of_several(self):
        self.fault(2, "columns a @_ 00 ?")
        self.fault(2, "columns a @00 _ " + "n" * 17)
        self.fault(2, "columns a @" + "n" * 17 + " 00 _")

    def test_ahead_of_the_others_wherever_it_stands(self):
        self.fault(2, "row columns a ; @!")
        self.fault(2, "columns a, a ; @01")
        self.fault(2, "columns a, b, c, d, e ; @+")
        self.fault(2, "columns a ; ask a, a ; row 10 : 1001 ; ask times 0 ; ask x ; row 1 : 1 ; @" + "z" * 17)
        self.fault(2, "columns a ; ask a @?")

    def test_not_within_a_remark(self):
        self.fault(3, "columns a # _ 00\n@a ;")


class Fault3(LoadCase):
    def test_empty_texts(self):
        for text in ("@", " \t\n@", "#columns a ;@", "# x\n@"):
            self.fault(3, text)

    def test_a_text_that_ends_too_early(self):
        pieces = re.findall(r"\w+|\S", WORKED + " ask times 5 ;")
        for count in range(len(pieces)):
            text = " ".join(pieces[:count]) + " \n"
            if count > 0 and pieces[count - 1] == ";":
                self.assertEqual(ask_last(load(text))[0], 1, text)
            else:
                self.fault(3, text + "@")

    def test_an_early_end_behind_a_remark(self):
        self.fault(3, "columns a # ;@")
        self.fault(3, "columns a ; row 1 : - # 5 ;\n@")

    def test_the_words_in_a_names_place(self):
        for word in ("columns", "row", "ask", "times"):
            self.fault(3, f"columns @{word} ;")
            self.fault(3, f"columns a, @{word} ;")
            self.fault(3, f"columns a ; ask a, @{word} ;")
        for word in ("columns", "row", "ask"):
            self.fault(3, f"columns a ; ask @{word} ;")

    def refused_all_but(self, begin, allowed):
        """Behind this beginning every kind of token but the allowed ones is fault 3."""
        tokens = ["columns", "row", "ask", "times", "nn", "5", ",", ":", ";", "-", ""]
        for token in tokens:
            if token not in allowed:
                self.fault(3, f"{begin} @{token}")

    def test_each_token_that_is_not_allowed_at_each_place(self):
        self.refused_all_but("", ["columns"])
        self.refused_all_but("columns", ["nn"])
        self.refused_all_but("columns a", [",", ";"])
        self.refused_all_but("columns a ,", ["nn"])
        self.refused_all_but("columns a, b, c, d", [",", ";"])
        items = ["row", "ask", ""]
        self.refused_all_but("columns a ;", items)
        self.refused_all_but("columns a ; row", ["5"])
        self.refused_all_but("columns a ; row 1", [":"])
        self.refused_all_but("columns a, b ; row 1", [","])
        self.refused_all_but("columns a, b ; row 1,", ["5"])
        self.refused_all_but("columns a, b ; row 1, 2", [":"])
        self.refused_all_but("columns a ; row 1 :", ["5", "-"])
        self.refused_all_but("columns a ; row 1 : -", ["5"])
        self.refused_all_but("columns a ; row 1 : 5", [";"])
        self.refused_all_but("columns a ; row 1 : - 5", [";"])
        self.refused_all_but("columns a ; row 1 : 5 ;", items)
        self.refused_all_but("columns a ; ask", ["nn", "times", ";"])
        self.refused_all_but("columns a ; ask a", [",", "times", ";"])
        self.refused_all_but("columns a ; ask a ,", ["nn"])
        self.refused_all_but("columns a ; ask times", ["5"])
        self.refused_all_but("columns a ; ask times 5", [";"])
        self.refused_all_but("columns a ; ask a times", ["5"])
        self.refused_all_but("columns a ; ask a times 5", [";"])
        self.refused_all_but("columns a ; ask a times 5 ;", items)

    def test_too_few_and_too_many_numbers_in_a_row(self):
        self.fault(3, HEAD + "row 1 @: 5 ;")
        self.fault(3, HEAD + "row 1, 2@, 3 : 5 ;")
        self.fault(3, HEAD + "row 1, @: 5 ;")
        self.fault(3, FOUR + "row 1, 2, 3, 4@, : 5 ;")

    def test_a_comma_without_a_name_behind_it(self):
        self.fault(3, "columns a, @;")
        self.fault(3, "columns a, b, c, d, @;")
        self.fault(3, HEAD + "ask a, @;")
        self.fault(3, HEAD + "ask a, b, @;")
        self.fault(3, HEAD + "ask a, b, @times 2 ;")


class Fault4(LoadCase):
    def test_a_fifth_column(self):
        self.fault(4, "columns a, b, c, d, @e ;")
        self.fault(4, "columns a, b, c, d, @e, f, g ;")

    def test_a_seventeenth_row(self):
        self.right(HEAD + ROW * 16, 2, 16, 0)
        self.fault(4, HEAD + ROW * 16 + "@" + ROW)
        self.fault(4, HEAD + ROW * 16 + "ask ; ask a ; @row")

    def test_a_ninth_question(self):
        self.right(HEAD + "ask a ; " * 8, 2, 0, 8)
        self.fault(4, HEAD + "ask a ; " * 8 + "@ask a ;")
        self.fault(4, HEAD + "ask a ; " * 8 + ROW + "@ask")

    def test_ahead_of_what_is_wrong_behind_it(self):
        self.fault(4, HEAD + ROW * 16 + "@row 10")
        self.fault(4, HEAD + "ask ; " * 8 + "@ask x, x ;")

    def test_the_lesser_number_at_one_token(self):
        self.fault(4, "columns a, b, c, d, @a ;")


class Fault5(LoadCase):
    def test_a_column_told_before(self):
        self.fault(5, "columns a, @a ;")
        self.fault(5, "columns a, b, c, @b ;")
        self.fault(5, "columns a, b, c, @a, e, f ;")
        self.fault(5, "columns " + "n" * 16 + ", @" + "n" * 16 + " ;")


class Fault6(LoadCase):
    def test_a_column_asked_before(self):
        self.fault(6, HEAD + "ask a, @a ;")
        self.fault(6, HEAD + "ask b, a, @b ;")
        self.fault(6, FOUR + "ask a, b, c, d, @d ;")

    def test_not_in_another_question(self):
        self.right(HEAD + "ask a ; ask a ;", 2, 0, 2)


class Fault7(LoadCase):
    def test_values_above_9(self):
        self.fault(7, "columns a ; row @10 : 1 ;")
        self.fault(7, HEAD + "row 9, @10 : 1 ;")
        self.fault(7, HEAD + "row @11 : 1 ;")

    def test_sums_above_1000(self):
        self.fault(7, "columns a ; row 1 : @1001 ;")
        self.fault(7, "columns a ; row 1 : -@1001 ;")
        self.fault(7, "columns a ; row 1 : - #\n @1001 ;")
        self.fault(7, "columns a ; row 1 : @1001 : ;")

    def test_how_often_not_from_1_to_99(self):
        for question in ("ask times", "ask a times"):
            self.fault(7, f"columns a ; {question} @0 ;")
            self.fault(7, f"columns a ; {question} @100 ;")
            self.fault(3, f"columns a ; {question} @-1 ;")


class Fault8(LoadCase):
    def test_no_column(self):
        self.fault(8, "columns a ; ask @b ;")
        self.fault(8, HEAD + "ask a, @x ;")
        self.fault(8, HEAD + "ask @A ;")
        self.fault(8, HEAD + "ask @aa ;")
        self.fault(8, FOUR + "ask a, b, c, d, @e ;")


class SeveralFaults(LoadCase):
    def test_from_left_to_right(self):
        self.fault(5, "columns a, @a ; ask x ;")
        self.fault(8, "columns a ; ask @x, x ; row 10 : 1 ;")
        self.fault(8, "columns a ; ask @x times 0 ;")
        self.fault(7, "columns a ; row @10 : 1001 ; ask x ;")
        self.fault(7, "columns a ; row 1 : @1001 ; columns")
        self.fault(7, "columns a ; ask times @0 ; ask x ;")
        self.fault(6, "columns a ; ask a, @a, x ;")
        self.fault(3, "columns a ; ask a @a, x ;")
        self.fault(3, "columns a @: , a ;")
        self.fault(5, "columns a, b, @a, c, d, e ;")


class WhatIsHeld(LoadCase):
    def test_a_text_that_is_not_right_changes_nothing(self):
        wrong = ["", "columns a ; row", "columns a, a ;", "columns a ; ?", " " * 4097,
                 "columns a ; row 1 : 1 ; ask a ; ask x ;"]
        steps = [load(WORKED), readers(0, 0, 1, 1), changes(1), shown(), alone(1), alone(2), alone(3)]
        before = ask(*steps)[3:]
        for text in wrong:
            after = ask(*steps[:3], load(text), *steps[3:])
            self.assertEqual(after[3][0], 0)
            self.assertEqual(after[4:], before)
            self.assertEqual(after[5:], [[12], [11], [21]])

    def test_a_text_that_is_not_right_holds_no_table(self):
        self.assertEqual(ask(load("columns a ; row 1"), shown(), alone(0)), [[0, 3, 17], [-1], [-1]])

    def test_a_text_that_is_right_sets_all_back(self):
        first = ask(load(WORKED), shown(), alone(1), alone(2))
        self.assertEqual(first[2:], [[3 * 2 + 2 + 2 * 3 + 1], [0]])
        again = ask(load(WORKED), readers(1, 1, 1, 1), changes(7), load(WORKED), shown(), alone(1), alone(2))
        self.assertEqual(again[3:], first)

    def test_another_table_is_held_from_then_on(self):
        told = ask(load(WORKED), load("columns z ; ask z ;"), shown(), readers(0, 0, 0, 0), readers(3))
        self.assertEqual(told[1], [1, 1, 0, 1])
        self.assertEqual(bytes(told[2][1:]), b"columns z ;\nask z ;\n")
        self.assertEqual(told[3:], [[-3], [1]])


if __name__ == "__main__":
    unittest.main()
