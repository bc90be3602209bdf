"""load: what is a list, and each fault's code and place."""

import unittest

from calling import WORKED, ask, ask_of, load, one_form, scores


def loaded(text):
    return ask(load(text))[0]


def padded(text, length):
    """The text with blanks behind it, as long as told."""
    return text + " " * (length - len(text))


class RightLists(unittest.TestCase):
    def test_worked_list(self):
        self.assertEqual(loaded(WORKED), [1, 2, 5])

    def test_measures_alone(self):
        self.assertEqual(loaded("measures a up;"), [1, 1, 0])

    def test_one_to_four_measures(self):
        for many in (1, 2, 3, 4):
            text = one_form([True] * many, [[1] * many])
            self.assertEqual(loaded(text), [1, many, 1])

    def test_none_to_sixteen_items(self):
        for many in range(17):
            self.assertEqual(loaded(one_form([True, False], [[1, 2]] * many)), [1, 2, many])

    def test_nothing_parts_tokens_where_nothing_need(self):
        self.assertEqual(loaded("measures a up,b down;item x:1,-2;item y:3,4;"), [1, 2, 2])

    def test_each_value_is_told_with_its_sign(self):
        text = "measures a up, b down; item x: 7, 7; item y: -7, -7; item z: - 7, -\n#r\n7;"
        self.assertEqual(ask_of(text, scores(1, 0), scores(0, 1)), [[3, 7, -7, -7], [3, -7, 7, 7]])

    def test_a_minus_is_of_its_own_value_alone(self):
        text = "measures a up, b up; item x: -5, 3; item y: 2, -4; item z: 1, 1;"
        self.assertEqual(ask_of(text, scores(1, 0), scores(0, 1)), [[3, -5, 2, 1], [3, 3, -4, 1]])

    def test_minus_nought_is_nought(self):
        told = ask_of("measures a up; item x: -0; item y: 0;", scores(1))
        self.assertEqual(told, [[2, 0, 0]])
        self.assertEqual(ask_of("measures a down; item x: -0; item y: 0;", scores(1)), [[2, 0, 0]])

    def test_values_up_to_a_thousand(self):
        told = ask_of("measures a up; item x: 1000; item y: -1000; item z: 999;", scores(1))
        self.assertEqual(told, [[3, 1000, -1000, 999]])

    def test_one_form_says_the_same(self):
        loose = "#r\nmeasures\tn0 up,n1 down#;\n;item n0:-0,10;\n\n item n1 : - 3 , 0;#"
        tight = "measures n0 up, n1 down ;\nitem n0 : 0, 10 ;\nitem n1 : -3, 0 ;\n"
        self.assertEqual(one_form([True, False], [[0, 10], [-3, 0]]), tight)
        calls = (scores(1, 0), scores(0, 1))
        self.assertEqual(ask_of(loose, *calls), ask_of(tight, *calls))
        self.assertEqual(ask_of(loose, *calls), [[2, 0, -3], [2, -10, 0]])

    def test_a_measure_and_an_item_may_have_the_same_name(self):
        self.assertEqual(loaded("measures a up; item a : 1;"), [1, 1, 1])

    def test_names_differ_by_great_and_small_letters_and_by_their_ends(self):
        self.assertEqual(loaded("measures a up, A up, a1 up, a12 up; item a: 1,1,1,1;"), [1, 4, 1])
        self.assertEqual(loaded("measures Measures up, UP up, Down up, iTem up;"), [1, 4, 0])

    def test_a_word_with_more_behind_it_is_a_name(self):
        self.assertEqual(loaded("measures measures1 up, upx up, downs up, items up;"), [1, 4, 0])


class BlanksAndRemarks(unittest.TestCase):
    TOKENS = ["measures", "a", "up", ",", "b", "down", ";", "item", "x", ":", "-", "1", ",", "2", ";"]

    def test_between_any_two_tokens_and_at_both_ends(self):
        for gap in (" ", "\t", "\n", " \t\n ", "#\n", "# ; , : - $ item\x00\xff \r\n", "\n#a\n#b\n\n"):
            self.assertEqual(loaded(gap + gap.join(self.TOKENS) + gap), [1, 2, 1])

    def test_at_one_spot_at_a_time(self):
        for spot in range(len(self.TOKENS) + 1):
            tokens = self.TOKENS[:spot] + ["#x#;\n"] + self.TOKENS[spot:]
            self.assertEqual(loaded(" ".join(tokens)), [1, 2, 1])

    def test_a_remark_may_end_with_the_text(self):
        for tail in ("#", "# item", "#\n", "##"):
            self.assertEqual(loaded("measures a up;" + tail), [1, 1, 0])

    def test_a_remark_ends_at_its_line(self):
        self.assertEqual(loaded("measures a up;# item x : 1;\nitem y : 2;"), [1, 1, 1])
        self.assertEqual(loaded("measures a up;# \n$"), [0, 2, 17])

    def test_a_remark_or_a_blank_parts_names_and_numbers(self):
        self.assertEqual(loaded("measures a#\nb up;"), [0, 3, 12])
        self.assertEqual(loaded("measures a b up;"), [0, 3, 11])
        self.assertEqual(loaded("measures a up; item x : 1 2;"), [0, 3, 26])
        self.assertEqual(loaded("measures a up; item x : 1#\n2;"), [0, 3, 27])

    def test_no_other_byte_is_a_blank(self):
        for byte in range(256):
            text = "measures a up;" + (chr(byte))
            sign = chr(byte)
            if sign in " \t\n#":
                self.assertEqual(loaded(text), [1, 1, 0])
            elif sign.isascii() and (sign.isalnum() or sign in ",:;-"):
                self.assertEqual(loaded(text), [0, 3, 14], byte)
            else:
                self.assertEqual(loaded(text), [0, 2, 14], byte)


class TooLong(unittest.TestCase):
    def test_4096_bytes_are_allowed(self):
        self.assertEqual(loaded(padded("measures a up;", 4096)), [1, 1, 0])

    def test_4097_bytes_are_not(self):
        self.assertEqual(loaded(padded("measures a up;", 4097)), [0, 1, 4096])

    def test_8192_bytes_are_not(self):
        self.assertEqual(loaded("#" * 8192), [0, 1, 4096])

    def test_comes_ahead_of_all_others(self):
        self.assertEqual(loaded(padded("$", 4097)), [0, 1, 4096])
        self.assertEqual(loaded(padded("; measures", 5000)), [0, 1, 4096])

    def test_at_4096_bytes_the_others_are_told(self):
        self.assertEqual(loaded(padded("measures", 4096)), [0, 3, 4096])
        self.assertEqual(loaded(padded("measures a up;", 4095) + "$"), [0, 2, 4095])


class NoToken(unittest.TestCase):
    def test_bytes_that_begin_nothing(self):
        for sign in "_.+!$=\"'()\r\x0b\x0c\x00\x7f\x80\xff@[`{/":
            self.assertEqual(loaded("measures a up; " + sign), [0, 2, 15], sign)
            self.assertEqual(loaded("measures a" + sign + "b up;"), [0, 2, 10], sign)

    def test_comes_ahead_of_faults_before_it(self):
        self.assertEqual(loaded("; ; ; $"), [0, 2, 6])
        self.assertEqual(loaded("measures a up, a up; item x : 2000; $"), [0, 2, 36])

    def test_the_first_place_is_told(self):
        self.assertEqual(loaded("measures $ 01 ?"), [0, 2, 9])

    def test_a_name_of_16_bytes_and_of_17(self):
        for letter in "aZ":
            name = letter + "1" * 15
            self.assertEqual(loaded(f"measures {name} up; item {name} : 1;"), [1, 1, 1])
            self.assertEqual(loaded(f"measures {name}1 up;"), [0, 2, 9])
            self.assertEqual(loaded(f"measures a up; item {name}x : 1;"), [0, 2, 20])

    def test_a_name_too_long_counts_in_whole(self):
        self.assertEqual(loaded("measures " + "a" * 17 + "$"), [0, 2, 9])
        self.assertEqual(loaded("measures" * 3), [0, 2, 0])

    def test_the_greatest_number_and_one_more(self):
        head = "measures a up; item x : "
        self.assertEqual(loaded(head + "1000000000;"), [0, 7, 24])
        self.assertEqual(loaded(head + "1000000001;"), [0, 2, 24])
        self.assertEqual(loaded(head + "9999999999;"), [0, 2, 24])
        self.assertEqual(loaded(head + "10000000000;"), [0, 2, 24])
        self.assertEqual(loaded(head + "-1000000001;"), [0, 2, 25])
        self.assertEqual(loaded(head + "9" * 4000), [0, 2, 24])

    def test_a_needless_nought_in_front(self):
        head = "measures a up; item x : "
        self.assertEqual(loaded(head + "0;"), [1, 1, 1])
        for number in ("00", "01", "0100", "0" * 4000):
            self.assertEqual(loaded(head + number + ";"), [0, 2, 24])
            self.assertEqual(loaded(head + "-" + number), [0, 2, 25])
        self.assertEqual(loaded(head + "10;"), [1, 1, 1])

    def test_a_bad_number_where_none_may_stand(self):
        self.assertEqual(loaded("01 measures"), [0, 2, 0])
        self.assertEqual(loaded("measures a 1000000001"), [0, 2, 11])

    def test_letters_behind_digits_are_a_name_of_their_own(self):
        self.assertEqual(loaded("measures a up; item x : 12a;"), [0, 3, 26])
        self.assertEqual(loaded("measures a up; item x : 0a;"), [0, 3, 25])
        self.assertEqual(loaded("measures a up; item 1a : 1;"), [0, 3, 20])


class NotAllowed(unittest.TestCase):
    KINDS = {
        "measures": "measures", "up": "up", "down": "down", "item": "item", "name": "q",
        "number": "5", ",": ",", ":": ":", ";": ";", "-": "-", "end": "",
    }

    def check(self, head, *allowed):
        """Behind the head just the told kinds of token may stand; all others are 3 at their place."""
        for kind, token in self.KINDS.items():
            told = loaded(head + token)
            if kind in allowed:
                self.assertNotEqual(told, [0, 3, len(head)], (head, kind))
            else:
                self.assertEqual(told, [0, 3, len(head)], (head, kind))

    def test_each_spot(self):
        self.check("", "measures")
        self.check("measures ", "name")
        self.check("measures a ", "up", "down")
        self.check("measures a up ", ",", ";")
        self.check("measures a up, ", "name")
        self.check("measures a up, b down ", ",", ";")
        self.check("measures a up; ", "item", "end")
        self.check("measures a up; item ", "name")
        self.check("measures a up; item x ", ":")
        self.check("measures a up; item x : ", "number", "-")
        self.check("measures a up; item x : - ", "number")
        self.check("measures a up; item x : 1 ", ";")
        self.check("measures a up, b up; item x : 1 ", ",")
        self.check("measures a up, b up; item x : 1, ", "number", "-")
        self.check("measures a up, b up; item x : 1, 2 ", ";")
        self.check("measures a up; item x : 1; ", "item", "end")

    def test_a_text_of_no_bytes(self):
        self.assertEqual(loaded(""), [0, 3, 0])

    def test_blanks_and_remarks_alone(self):
        self.assertEqual(loaded("  # measures\n "), [0, 3, 14])

    def test_a_value_too_few(self):
        self.assertEqual(loaded("measures a up, b up; item x : 1;"), [0, 3, 31])

    def test_a_value_too_many_at_its_comma(self):
        self.assertEqual(loaded("measures a up; item x : 1, 2;"), [0, 3, 25])
        self.assertEqual(loaded("measures a up, b up; item x : 1, 2, 3;"), [0, 3, 34])

    def test_no_value(self):
        self.assertEqual(loaded("measures a up; item x : ;"), [0, 3, 24])

    def test_no_measure(self):
        self.assertEqual(loaded("measures ;"), [0, 3, 9])

    def test_words_are_no_names(self):
        for word in ("measures", "up", "down", "item"):
            self.assertEqual(loaded(f"measures {word} up;"), [0, 3, 9])
            self.assertEqual(loaded(f"measures a up; item {word} : 1;"), [0, 3, 20])

    def test_a_second_list_behind_the_first(self):
        self.assertEqual(loaded("measures a up; measures b up;"), [0, 3, 15])
        self.assertEqual(loaded("measures a up; item x : 1; measures b up;"), [0, 3, 27])

    def test_the_first_from_the_left_is_told(self):
        self.assertEqual(loaded("measures a a ; ; item"), [0, 3, 11])
        self.assertEqual(loaded("measures a up; item x : 1001; item x : 1;"), [0, 7, 24])
        self.assertEqual(loaded("measures a up, a up; item x : 1001;"), [0, 5, 15])
        self.assertEqual(loaded("measures a up; item x : 1; item x : 1001;"), [0, 5, 32])


class TooMany(unittest.TestCase):
    FOUR = "measures a up, b up, c down, d up"
    SIXTEEN = one_form([True], [[1]] * 16)

    def test_a_fifth_measure(self):
        self.assertEqual(loaded(self.FOUR + ", e up;"), [0, 4, 35])

    def test_the_comma_ahead_of_it_is_allowed(self):
        self.assertEqual(loaded(self.FOUR + ", ;"), [0, 3, 35])
        self.assertEqual(loaded(self.FOUR + ", up"), [0, 3, 35])
        self.assertEqual(loaded(self.FOUR + ","), [0, 3, 34])

    def test_a_fifth_measure_named_as_an_earlier_one(self):
        self.assertEqual(loaded(self.FOUR + ", a up;"), [0, 4, 35])

    def test_a_seventeenth_item(self):
        place = len(self.SIXTEEN)
        self.assertEqual(loaded(self.SIXTEEN + "item n16 : 1 ;"), [0, 4, place])
        self.assertEqual(loaded(self.SIXTEEN + "item"), [0, 4, place])
        self.assertEqual(loaded(self.SIXTEEN + "item n0 : 1001"), [0, 4, place])

    def test_another_token_behind_sixteen_items(self):
        self.assertEqual(loaded(self.SIXTEEN + "items"), [0, 3, len(self.SIXTEEN)])
        self.assertEqual(loaded(self.SIXTEEN + ";"), [0, 3, len(self.SIXTEEN)])

    def test_a_fault_before_comes_first(self):
        self.assertEqual(loaded("measures a up, a up, c up, d up, e up;"), [0, 5, 15])


class NamedTwice(unittest.TestCase):
    def test_measures(self):
        self.assertEqual(loaded("measures a up, a down;"), [0, 5, 15])
        self.assertEqual(loaded("measures a up, b up, c up, b up;"), [0, 5, 27])

    def test_items(self):
        self.assertEqual(loaded("measures a up; item x : 1; item x : 1;"), [0, 5, 32])
        self.assertEqual(loaded("measures a up; item x : 1; item y : 1; item x : 2;"), [0, 5, 44])

    def test_at_the_name_ahead_of_what_follows(self):
        self.assertEqual(loaded("measures a up, a ; ;"), [0, 5, 15])


class TooGreat(unittest.TestCase):
    def test_1000_and_1001(self):
        self.assertEqual(loaded("measures a up; item x : 1000;"), [1, 1, 1])
        self.assertEqual(loaded("measures a up; item x : 1001;"), [0, 7, 24])

    def test_behind_a_minus_at_the_number(self):
        self.assertEqual(loaded("measures a up; item x : -1000;"), [1, 1, 1])
        self.assertEqual(loaded("measures a up; item x : -1001;"), [0, 7, 25])
        self.assertEqual(loaded("measures a up; item x : - 1001;"), [0, 7, 26])

    def test_at_a_later_value(self):
        self.assertEqual(loaded("measures a up, b up; item x : 1, 5000;"), [0, 7, 33])

    def test_a_number_that_may_not_stand_there_is_3(self):
        self.assertEqual(loaded("measures a up; item x : 1 1001;"), [0, 3, 26])
        self.assertEqual(loaded("measures 1001"), [0, 3, 9])

    def test_comes_ahead_of_a_fault_behind_it(self):
        self.assertEqual(loaded("measures a up; item x : 1001, 1;"), [0, 7, 24])


if __name__ == "__main__":
    unittest.main()
