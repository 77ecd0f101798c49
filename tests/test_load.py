"""The call load: right texts at every edge, and each fault with its place."""

import unittest

from tests.helper import all_items, ask, chances, load, mean, unbeaten

HEAD = "measures a up;"


def loaded(text):
    return ask(load(text))[0]


def items_text(how_many):
    return HEAD + "".join(f"item i{k}:{k};" for k in range(how_many))


class RightTexts(unittest.TestCase):
    def right(self, text, measures, items):
        self.assertEqual(loaded(text), [1, measures, items])

    def test_one_and_four_measures(self):
        self.right("measures a up;item x:1;", 1, 1)
        self.right("measures a down;item x:1;", 1, 1)
        self.right("measures a up,b down,c up,d down;item x:1,2,3,4;", 4, 1)

    def test_two_and_three_measures(self):
        self.right("measures a up,b down;item x:1,2;", 2, 1)
        self.right("measures a up,b down,c down;item x:1,2,3;", 3, 1)

    def test_no_item_and_sixteen_items(self):
        self.right(HEAD, 1, 0)
        self.right(items_text(1), 1, 1)
        self.right(items_text(16), 1, 16)

    def test_names_of_one_and_of_sixteen_bytes(self):
        self.right("measures Z up;item z:1;", 1, 1)
        self.right("measures abcdefghijklmnop up;item A123456789012345:1;", 1, 1)

    def test_every_letter_and_digit_may_stand_in_a_name(self):
        for letter in "AZaz":
            for behind in "AZaz09":
                self.right(f"measures {letter}{behind} up;", 1, 0)

    def test_names_that_begin_with_a_word_or_differ_in_case(self):
        self.right("measures measuresx up, upper up, downs down, items up;", 4, 0)
        self.right("measures Up up, DOWN down, Item up, up2 up;", 4, 0)
        self.right("measures a up, A up;item x:1,1;item X:1,1;", 2, 2)

    def test_an_item_may_be_called_like_a_measure(self):
        self.right("measures a up;item a:1;", 1, 1)

    def test_edges_of_values(self):
        self.right("measures a up,b up,c up,d up;item x:0,-0,1000,-1000;", 4, 1)
        self.right("measures a up,b up;item x:999,1;item y:-1,-999;", 2, 2)

    def test_minus_zero_is_zero(self):
        answers = ask(load("measures a up;item x:0;item y:-0;"), all_items())
        self.assertEqual(answers, [[1, 1, 2], [2, 1, 1, 1, 1]])

    def test_a_value_below_zero_is_less(self):
        answers = ask(load("measures a up;item x:-5;item y:3;item z:-1000;"), all_items())
        self.assertEqual(answers[1], [3, 0, 1, 1, 1, 0, 1])

    def test_tokens_need_no_blanks_where_they_part_by_themselves(self):
        self.right("measures a up;item x:1;item y:-2;", 1, 2)

    def test_blanks_and_remarks_between_any_two_tokens_and_at_both_ends(self):
        tokens = "measures a up , b down ; item x : - 1 , 2 ; item y : 3 , - 0 ;".split()
        for between in (" ", "\t", "\n", " \t\n \n", "#\n", "# no, : ; token\n", "#a\n #b##\n\t"):
            text = between + between.join(tokens) + between
            self.right(text, 2, 2)

    def test_any_byte_may_stand_in_a_remark(self):
        for byte in range(256):
            if byte != 10:
                self.right(b"#" + bytes([byte]) + b"\nmeasures a up;", 1, 0)

    def test_a_remark_that_the_texts_end_closes(self):
        self.right(HEAD + "#", 1, 0)
        self.right(HEAD + "# item x", 1, 0)
        self.right(HEAD + "item x:1;\n#\tbehind", 1, 1)

    def test_a_remark_parts_tokens(self):
        self.right("measures#\na#\nup;item#\nx:1;", 1, 1)

    def test_4096_bytes(self):
        text = items_text(3)
        self.right(text + " " * (4096 - len(text)), 1, 3)
        self.right("#" * (4095 - len(text)) + "\n" + text, 1, 3)


class Faults(unittest.TestCase):
    def fault(self, text, code, place):
        self.assertEqual(loaded(text), [0, code, place], text)

    def at(self, code, ahead, behind):
        """The fault is told just behind what stands ahead."""
        self.fault(ahead + behind, code, len(ahead))


class TooLong(Faults):
    def test_more_than_4096_bytes(self):
        self.fault(HEAD + " " * (4097 - len(HEAD)), 1, 4096)
        self.fault(HEAD + " " * (8192 - len(HEAD)), 1, 4096)
        self.fault(" " * 4097, 1, 4096)

    def test_it_is_told_ahead_of_all_other_faults(self):
        self.fault("?" * 4097, 1, 4096)
        self.fault("a" * 5000, 1, 4096)
        self.fault("measures a up, a up" + " " * 4096, 1, 4096)


class NoToken(Faults):
    def test_a_byte_that_begins_no_token(self):
        begins = set(b" \t\n#,:;-0123456789")
        begins.update(range(65, 91))
        begins.update(range(97, 123))
        for byte in range(256):
            if byte not in begins:
                self.fault(HEAD.encode() + bytes([byte]), 2, len(HEAD))
                self.fault(bytes([byte]), 2, 0)
                self.fault(b"measures a" + bytes([byte]) + b" up;", 2, 10)

    def test_a_name_of_17_bytes(self):
        self.at(2, "measures ", "abcdefghijklmnopq up;")
        self.at(2, HEAD + "item ", "a1234567890123456:1;")
        self.at(2, "", "measuresmeasuresm")
        self.at(2, HEAD, "a" * 4000)

    def test_a_needless_zero(self):
        for number in ("00", "01", "0000", "01000", "007", "0" * 3000):
            self.at(2, HEAD + "item x:", number + ";")
            self.at(2, HEAD + "item x:-", number + ";")

    def test_a_number_that_is_too_great(self):
        for number in ("1000000001", "2000000000", "9999999999", "10000000000", "9" * 4000):
            self.at(2, HEAD + "item x:", number + ";")
            self.at(2, "", number)

    def test_the_greatest_number_is_a_token(self):
        self.at(7, HEAD + "item x:", "1000000000;")
        self.at(7, HEAD + "item x:", "999999999;")
        self.at(3, "", "1000000000")

    def test_the_first_of_them_is_told(self):
        self.at(2, HEAD + "item x:", "01; ? " + "a" * 17)
        self.at(2, HEAD, "? 01")

    def test_it_is_told_ahead_of_the_faults_3_to_7(self):
        for text in (
            "up up up ",
            "measures a up, a up;",
            HEAD + "item x:1001;",
            "measures a up,b up,c up,d up,e up;",
            items_text(17),
            "",
        ):
            self.at(2, text, "?")


class NotAllowed(Faults):
    def test_at_the_texts_end(self):
        whole = "measures a up , b down ; item x : - 1 , 2 ;".split()
        behind_measures = 7
        for how_many in range(len(whole)):
            text = " ".join(whole[:how_many])
            if how_many != behind_measures:
                self.fault(text, 3, len(text))
                self.fault(text + " \n", 3, len(text) + 2)
                self.fault(text + " #;", 3, len(text) + 3)

    def test_nothing_but_blanks(self):
        self.fault("", 3, 0)
        self.fault(" \t\n", 3, 3)
        self.fault("# measures a up;", 3, 16)

    def test_at_each_token_that_is_not_allowed(self):
        spellings = ["measures", "up", "down", "item", "z", "7", ",", ":", ";", "-"]
        allowed = [
            ("", ["measures"]),
            ("measures ", ["z"]),
            ("measures a ", ["up", "down"]),
            ("measures a up ", [",", ";"]),
            ("measures a up , ", ["z"]),
            ("measures a up , b ", ["up", "down"]),
            ("measures a up , b down ", [",", ";"]),
            ("measures a up , b down ; ", ["item"]),
            ("measures a up , b down ; item ", ["z"]),
            ("measures a up , b down ; item x ", [":"]),
            ("measures a up , b down ; item x : ", ["7", "-"]),
            ("measures a up , b down ; item x : - ", ["7"]),
            ("measures a up , b down ; item x : 1 ", [","]),
            ("measures a up , b down ; item x : 1 , ", ["7", "-"]),
            ("measures a up , b down ; item x : 1 , - ", ["7"]),
            ("measures a up , b down ; item x : 1 , 2 ", [";"]),
            ("measures a up , b down ; item x : 1 , 2 ; ", ["item"]),
        ]
        for ahead, right in allowed:
            for spelling in spellings:
                if spelling in right:
                    self.assertNotEqual(loaded(ahead + spelling)[2:], [len(ahead)], ahead + spelling)
                else:
                    self.at(3, ahead, spelling)
                    self.at(3, ahead, spelling + " measures ; 1001")

    def test_at_a_word_where_a_name_should_stand(self):
        for word in ("measures", "up", "down", "item"):
            self.at(3, "measures ", word + " up;")
            self.at(3, "measures a up, ", word + " up;")
            self.at(3, "measures a up,b up,c up,d up, ", word + " up;")
            self.at(3, HEAD + "item ", word + ":1;")
            self.at(3, HEAD + "item x:1;item ", word + ":1;")

    def test_too_few_and_too_many_values(self):
        self.at(3, "measures a up,b up;item x:1", ";")
        self.at(3, "measures a up,b up;item x:1,2", ",3;")
        self.at(3, HEAD + "item x:", ";")

    def test_no_comma_behind_the_last_measure_but_for_a_name(self):
        self.at(3, "measures a up,", ";")
        self.at(3, "measures a up,b up,c up,d up,", ";")

    def test_a_word_in_other_case_is_a_name(self):
        self.at(3, "", "Measures a up;")
        self.at(3, "measures a ", "UP;")
        self.at(3, HEAD, "Item x:1;")

    def test_digits_and_letters_part_where_digits_end(self):
        self.at(3, HEAD + "item ", "1x:1;")
        self.at(3, HEAD + "item x:1", "x;")

    def test_a_number_that_is_not_allowed_is_not_told_as_too_great(self):
        self.at(3, HEAD, "1001")
        self.at(3, HEAD + "item x:1 ", "1001;")


class TooMany(Faults):
    FOUR = "measures a up,b down,c up,d down"

    def test_a_fifth_measures_name(self):
        self.at(4, self.FOUR + ",", "e up;")
        self.at(4, self.FOUR + " , ", "e")
        self.at(4, self.FOUR + ",", "e up,f up;")

    def test_a_fifth_measures_name_that_an_earlier_one_has(self):
        for name in "abcd":
            self.at(4, self.FOUR + ",", name + " up;")

    def test_the_comma_ahead_of_it_is_allowed(self):
        self.fault(self.FOUR + ",", 3, len(self.FOUR) + 1)

    def test_the_word_item_of_a_seventeenth_item(self):
        self.at(4, items_text(16), "item i16:1;")
        self.at(4, items_text(16) + " ", "item")
        self.at(4, items_text(16), "item i0:1;")
        self.at(4, items_text(16), "item 7")

    def test_other_tokens_behind_the_sixteenth_item(self):
        self.at(3, items_text(16), "i16")
        self.at(3, items_text(16), ";")


class NameAgain(Faults):
    def test_a_measures_name(self):
        self.at(5, "measures a up,", "a up;")
        self.at(5, "measures a up, b down, ", "a")
        self.at(5, "measures a up, b down, c up, ", "b down;")

    def test_an_items_name(self):
        self.at(5, HEAD + "item x:1;item ", "x:1;")
        self.at(5, HEAD + "item x:1;item y:2;item ", "x")
        self.at(5, items_text(15) + "item ", "i14:1;")
        self.at(5, HEAD + "item abcdefghijklmnop:1;item ", "abcdefghijklmnop:1;")


class TooGreat(Faults):
    def test_a_value_above_1000(self):
        for number in ("1001", "1002", "10000", "1000000000"):
            self.at(7, HEAD + "item x:", number + ";")
            self.at(7, HEAD + "item x:-", number + ";")
            self.at(7, HEAD + "item x:- ", number + ";")
            self.at(7, "measures a up,b down;item x:1,", number)


class SeveralFaults(Faults):
    def test_of_the_faults_3_to_7_the_first_from_the_left(self):
        self.at(3, "measures a ", "; item x:1001;")
        self.at(3, HEAD + "item x ", "1001; item x:1;")
        self.at(5, "measures a up,", "a up; item x:1001;")
        self.at(5, HEAD + "item x:1;item ", "x:1001;")
        self.at(7, HEAD + "item x:", "1001;item x:1;")
        self.at(7, HEAD + "item x:1;item y:", "1001;item x:1;;")
        self.at(4, "measures a up,b up,c up,d up,", "e up;item x:1001;")
        self.at(5, "measures a up,b up,c up,", "a up,e up;")
        self.at(4, items_text(16), "item i0:1001;")
        self.at(7, items_text(15) + "item x:", "1001;item y:1;")


class WhatIsHeld(unittest.TestCase):
    def test_a_fault_leaves_the_list_and_its_chances(self):
        faults = [" " * 4097, HEAD + "?", HEAD + ";", "measures a up,b up,c up,d up,e up;",
                  "measures a up,a up;", HEAD + "item x:1001;"]
        held = load("measures a up;item x:1;item y:2;")
        for text in faults:
            answers = ask(held, chances(3, [1, 2]), load(text), all_items(), unbeaten(1), mean())
            self.assertEqual(answers[2][0], 0)
            self.assertEqual(answers[3:], [[2, 1, 9, 2, 3], [1, 2, 3], [1, 7, 9]])

    def test_a_fault_holds_no_list(self):
        answers = ask(load(HEAD + "item x:1001;"), all_items())
        self.assertEqual(answers, [[0, 7, 21], [-1]])

    def test_a_right_load_takes_the_place_of_the_list_and_all_chances_are_1(self):
        held = load("measures a up;item x:1;item y:1;")
        answers = ask(held, chances(5, [1, 2]), held, all_items(),
                      chances(5, [1, 2]), load("measures a down;item z:1;item y:2;item x:1;"), all_items(), mean())
        self.assertEqual(answers[3], [2, 1, 1, 1, 1])
        self.assertEqual(answers[5:], [[1, 1, 3], [3, 1, 1, 0, 1, 1, 1], [1, 2, 1]])


if __name__ == "__main__":
    unittest.main()
