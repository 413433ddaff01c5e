import contextlib
import copy
import io
import sys
import unittest

from calls import Unchangeable, as_bytes, few_calls_within_one_another, modules_kept
from chancechoices.chances import check

NO_TEXT = [-2]


def checked(words):
    return check(as_bytes(words))


def with_gain(gain):
    return "state a { go " + gain + ": a; }"


def with_way(way):
    return "state a { go 1: " + way + "; }"


def states(names):
    return "".join("state " + name + " {}\n" for name in names)


def choices(names):
    return "state a {" + "".join(name + " 0: a;" for name in names) + "}"


class CheckCase(unittest.TestCase):
    def assert_states(self, count, words):
        self.assertEqual(checked(words), [count], words)

    def assert_no_text(self, words):
        self.assertEqual(checked(words), NO_TEXT, words)


class OrdinaryTexts(CheckCase):
    def test_some_states(self):
        self.assert_states(3, """
            # a walk to the shop
            state home { bus 3: shop/9, home; walk 10: shop; }
            state shop { buy -20: done; }
            state done {}
        """)

    def test_without_any_blank_that_can_be_spared(self):
        self.assert_states(2, "state a{x-1:a/2,b;y 0:b;}state b{}")

    def test_one_name_in_different_places(self):
        self.assert_states(2, "state a { a 1: a, b; b 1: b; } state b { a 1: a; b 2: a; }")

    def test_names_differ_by_case(self):
        self.assert_states(2, "state a { x 1: a, A; X 1: A; } state A {}")

    def test_a_way_to_a_state_told_later_and_to_itself(self):
        self.assert_states(2, "state a { x 1: b; } state b {}")
        self.assert_states(2, "state a {} state b { x 1: a; }")
        self.assert_states(1, "state a { x 1: a; }")

    def test_state_is_no_reserved_word(self):
        self.assert_states(1, "state state { state 1: state; }")

    def test_the_answer_is_a_list_of_one_whole_number(self):
        for words in ("state a {}", "", "state"):
            answer = checked(words)
            self.assertIs(type(answer), list)
            self.assertEqual([type(number) for number in answer], [int])


class HowMany(CheckCase):
    def test_states(self):
        names = ["s" + str(k) for k in range(40)]
        for count in range(1, 17):
            self.assert_states(count, states(names[:count]))
        for count in (0, 17, 18, 32, 40):
            self.assert_no_text(states(names[:count]))

    def test_texts_without_a_state(self):
        for words in ("", " ", "\n", "# state a {}", "# state a {}\n", "\0"):
            self.assert_no_text(words)

    def test_choices(self):
        names = ["c" + str(k) for k in range(20)]
        for count in range(9):
            self.assert_states(1, choices(names[:count]))
        for count in (9, 10, 16, 20):
            self.assert_no_text(choices(names[:count]))

    def test_nine_choices_in_a_later_state(self):
        nine = choices(["c" + str(k) for k in range(9)])
        self.assert_no_text("state b {}" + nine)
        self.assert_no_text(nine + "state b {}")

    def test_eight_choices_in_each_of_sixteen_states(self):
        names = ["s" + str(k) for k in range(16)]
        inner = "".join("c" + str(k) + " 1: " + ",".join(names) + ";" for k in range(8))
        self.assert_states(16, "".join("state " + name + "{" + inner + "}" for name in names))

    def test_a_choice_has_a_way_at_least(self):
        self.assert_no_text("state a { x 1: ; }")
        self.assert_no_text("state a { x 1; }")


class Names(CheckCase):
    def test_lengths(self):
        for length in range(1, 17):
            name = "n" * length
            self.assert_states(1, "state " + name + " { " + name + " 1: " + name + "; }")
        for length in (17, 18, 32, 300):
            self.assert_no_text("state " + "n" * length + " {}")
            self.assert_no_text("state a { " + "n" * length + " 1: a; }")
            self.assert_no_text("state " + "n" * 16 + " { x 1: " + "n" * length + "; }")

    def test_the_first_byte_is_a_letter(self):
        for byte in range(256):
            sign = chr(byte)
            text = "state " + sign + "a {}"
            if sign in "ABCDEFGHIJKLMNOPQRSTUVWXYZabcdefghijklmnopqrstuvwxyz" or byte <= 32:
                self.assert_states(1, text)
            else:
                self.assert_no_text(text)

    def test_the_later_bytes_are_letters_digits_and_underscores(self):
        for byte in range(256):
            sign = chr(byte)
            text = "state a" + sign + "a {}"
            if sign in "ABCDEFGHIJKLMNOPQRSTUVWXYZabcdefghijklmnopqrstuvwxyz0123456789_":
                self.assert_states(1, text)
            else:
                self.assert_no_text(text)

    def test_a_name_goes_as_far_as_its_bytes_go(self):
        self.assert_no_text("statea {}")
        self.assert_no_text("state a { x5: a; }")
        self.assert_no_text("state a { " + "n" * 16 + "5: a; }")
        self.assert_states(1, "state a { x5 5: a; }")
        self.assert_states(1, "state a { x-5: a; }")

    def test_a_blank_parts_a_name(self):
        self.assert_no_text("sta te a {}")
        self.assert_no_text("state a b {}")
        self.assert_no_text("sta#\nte a {}")

    def test_the_word_state_as_it_is_written(self):
        for word in ("State", "STATE", "stat", "states", "state_", "st4te", "choice", "\"state\""):
            self.assert_no_text(word + " a {}")

    def test_two_states_of_one_name(self):
        self.assert_no_text("state a {} state a {}")
        self.assert_no_text("state a {} state b {} state a { x 1: b; }")

    def test_two_choices_of_a_state_of_one_name(self):
        self.assert_no_text("state a { x 1: a; x 2: a; }")
        self.assert_no_text("state a { x 1: a; y 1: a; x 1: a; }")
        self.assert_no_text("state b {} state a { x 1: a; x 1: b; }")

    def test_two_ways_of_a_choice_of_one_name(self):
        self.assert_no_text("state a { x 1: a, a; }")
        self.assert_no_text("state a { x 1: a/1, b, a/2; } state b {}")
        self.assert_states(1, "state a { x 1: a; y 1: a; }")

    def test_a_way_to_what_is_no_state(self):
        self.assert_no_text("state a { x 1: b; }")
        self.assert_no_text("state a { x 1: x; }")
        self.assert_no_text("state a { x 1: A; }")
        self.assert_no_text("state ab { x 1: a; }")
        self.assert_no_text("state a { x 1: ab; }")
        self.assert_no_text("state a { x 1: a, b; } state c {}")
        self.assert_no_text("state a {} state c { x 1: a; y 1: a, c, b; }")


class Numbers(CheckCase):
    def test_gains_within(self):
        for number in ("0", "1", "9", "10", "999", "1000", "00", "007", "0001000", "0000000"):
            self.assert_states(1, with_gain(number))
            self.assert_states(1, with_gain("-" + number))
            self.assert_states(1, with_gain("- " + number))

    def test_gains_beyond(self):
        for number in ("1001", "0001001", "9999", "100000", "999999", "1000000", "1000001", "9999999"):
            self.assert_no_text(with_gain(number))
            self.assert_no_text(with_gain("-" + number))

    def test_eight_digits_and_more(self):
        for number in ("00000000", "00000001", "00001000", "10000000", "0" * 300 + "1"):
            self.assert_no_text(with_gain(number))
            self.assert_no_text(with_gain("-" + number))
            self.assert_no_text(with_way("a/" + number))

    def test_what_is_no_gain(self):
        for gain in ("", "-", "--1", "- -1", "+1", "1-", "1.0", "1 0", "a", "1a", "0x1", "/1", "1/1"):
            self.assert_no_text(with_gain(gain))

    def test_weights_within(self):
        for weight in ("", "/1", "/2", "/999", "/1000", "/01", "/0000001", "/0001000", " / 1"):
            self.assert_states(1, with_way("a" + weight))

    def test_weights_beyond(self):
        for weight in ("0", "00", "0000000", "1001", "0001001", "1000000", "1000001", "9999999"):
            self.assert_no_text(with_way("a/" + weight))

    def test_a_weight_of_a_later_way(self):
        self.assert_states(2, "state a { x 1: a/1, b/1000; } state b {}")
        self.assert_states(2, "state a { x 1: a/1000, b; } state b {}")
        self.assert_no_text("state a { x 1: a/1, b/0; } state b {}")
        self.assert_no_text("state a { x 1: a/1, b/1001; } state b {}")

    def test_what_is_no_weight(self):
        for weight in ("/", "//1", "/-1", "/+1", "/a", "/1a", "/1/1", "/ 1 0", "1", " 1", ":1"):
            self.assert_no_text(with_way("a" + weight))

    def test_digits_are_bytes_from_48_to_57(self):
        for byte in range(256):
            text = "state a { x 0" + chr(byte) + ": a; }"
            if chr(byte) in "0123456789" or byte <= 32:
                self.assert_states(1, text)
            else:
                self.assert_no_text(text)


class Blanks(CheckCase):
    PARTS = ("state", "a", "{", "x", "-", "1", ":", "a", "/", "2", ",", "b", ";", "y", "0", ":", "b", ";", "}",
             "state", "b", "{", "}")

    def test_each_blank_between_any_two_parts_ahead_and_behind(self):
        for byte in range(33):
            blank = chr(byte)
            self.assert_states(2, blank + blank.join(self.PARTS) + blank)

    def test_a_remark_between_any_two_parts_ahead_and_behind(self):
        for remark in ("#\n", "# state c {\n", "#}\n", "##\n", "#\r;\n", "#\0\x7f\x80\xff\n", " #a\n\n#b\n "):
            self.assert_states(2, remark + remark.join(self.PARTS) + remark)

    def test_a_remark_at_each_place_alone(self):
        for place in range(len(self.PARTS) + 1):
            ahead = " ".join(self.PARTS[:place])
            behind = " ".join(self.PARTS[place:])
            self.assert_states(2, ahead + "#,\n" + behind)

    def test_a_remark_at_the_texts_end(self):
        for remark in ("#", "# all", "# state a {}", "##", "#\xff", "#\n#"):
            self.assert_states(1, "state a {}" + remark)

    def test_only_the_byte_10_ends_a_remark(self):
        for byte in range(256):
            text = "state a {} # one" + chr(byte) + "state b {}"
            self.assert_states(2 if byte == 10 else 1, text)

    def test_a_remark_hides_what_is_needed(self):
        self.assert_no_text("state a { # }")
        self.assert_no_text("state a { x 1: a # ; }\n }")
        self.assert_no_text("# state a {\n}")

    def test_a_byte_behind_the_last_part(self):
        for byte in range(256):
            text = "state a {}" + chr(byte)
            if byte <= 32 or byte == 35:
                self.assert_states(1, text)
            else:
                self.assert_no_text(text)

    def test_bytes_above_127(self):
        for byte in range(128, 256):
            sign = chr(byte)
            self.assert_states(1, "#" + sign + "\nstate a {}#" + sign)
            self.assert_no_text(sign + "state a {}")
            self.assert_no_text("state" + sign + "a {}")
            self.assert_no_text("state a {" + sign + "}")
            self.assert_no_text(with_gain("1" + sign))
            self.assert_no_text(with_way("a" + sign))


class WrongTexts(CheckCase):
    def test_a_text_that_ends_early(self):
        for whole in ("state a { x -1: a/2, b; y 0: b; }", "state a { x 1: a; }", "state a{}"):
            for end in range(len(whole)):
                self.assert_no_text(whole[:end])
            for end in range(1, len(whole)):
                self.assert_no_text("state b {} " + whole[:end])

    def test_a_part_too_much(self):
        for words in (
            "state a {};", "state a {}}", "state a {{}}", "state state a {}", "state a {} a", "state a {} 1",
            "state a {;}", "state a { x 1: a;; }", "state a { x 1:: a; }", "state a { x 1: a,; }",
            "state a { x 1: ,a; }", "state a { x 1: a,,b; } state b {}", "state a { x y 1: a; }",
            "state a { x 1: a b; } state b {}", "state a {} , state b {}", "state a 1 {}",
        ):
            self.assert_no_text(words)

    def test_a_part_missing(self):
        for words in (
            "a {}", "state {}", "state a }", "state a {", "state a", "state", "{}", "state a { 1: a; }",
            "state a { x : a; }", "state a { x 1 a; }", "state a { x 1: a }", "state a { x 1: a y 1: a; }",
            "state a { x 1: a; state b {}", "state a { x 1: a/; }", "state a state b {}",
        ):
            self.assert_no_text(words)

    def test_a_part_at_the_wrong_place(self):
        for words in (
            "a state {}", "state { a }", "state {} a", "} state a {", "state a { 1 x: a; }", "state a { x: 1 a; }",
            "state a { x 1; a: }", "state a { x 1: 2/a; }", "state a { x 1: /2 a; }", "state a { x 1: a/2 };",
            "state a { state b {} }", "x 1: a; state a {}", "state a {} x 1: a;", "state a ( )", "state a [ ]",
            "state a { x 1 : a ; , }", "state a { x 1, a: a; }", "state a { x 1-: a; }",
        ):
            self.assert_no_text(words)

    def test_a_fault_in_any_state_tells(self):
        self.assert_no_text("state a { x 1: a } state b {}")
        self.assert_no_text("state a {} state b { x 1: a }")


class HowLong(CheckCase):
    LONGEST = 65536

    def filled(self, ahead, sign, behind, length):
        return ahead + sign * (length - len(ahead) - len(behind)) + behind

    def test_texts_of_65536_bytes(self):
        for ahead, sign, behind in (
            ("state a {}", " ", ""), ("", "\n", "state a {}"), ("state a {", "\0", "}"),
            ("state a {}", "#", ""), ("#", "#", "\nstate a {}"), ("state a {} #", "\xff", ""),
            ("state a {} ", "#\n", ""),
        ):
            whole = self.filled(ahead, sign, behind, self.LONGEST)[:self.LONGEST]
            self.assertEqual(len(whole), self.LONGEST)
            self.assertEqual(checked(whole), [1])

    def test_one_byte_more(self):
        for ahead in ("state a {}", "}", ""):
            self.assertEqual(checked(self.filled(ahead, " ", "", self.LONGEST + 1)), [-1])
        self.assertEqual(checked(self.filled("", "{", "", 2 * self.LONGEST)), [-1])

    def test_wrong_texts_of_65536_bytes(self):
        for ahead, piece in (
            ("", " "), ("", "{"), ("", "#"), ("", "n"), ("state ", "n"), ("state a { x ", "0"), ("state a { x ", "-"),
            ("state a { x 1: ", "a,"), ("state a {", "x 1: a;"), ("", "state a {}"), ("state a {", "{"),
            ("state a { x 1: a/", "1"),
        ):
            self.assertEqual(checked((ahead + piece * self.LONGEST)[:self.LONGEST]), NO_TEXT)

    def test_many_ways_and_states_of_many_names(self):
        ways = ",".join("w" + str(k) for k in range(9000))
        self.assertEqual(checked("state a { x 1: " + ways + "; }"), NO_TEXT)
        self.assertEqual(checked(states("s" + str(k) for k in range(4000))), NO_TEXT)

    def test_calls_within_one_another_stay_few(self):
        text = as_bytes(self.filled("state a {}", "#\n", "", self.LONGEST)[:self.LONGEST])
        with few_calls_within_one_another():
            answer = check(text)
        self.assertEqual(answer, [1])


class WhatIsHandedIn(CheckCase):
    TEXTS = (
        "state a { x -1: a/2, b; } state b {} # end", "state a {} state b {}", "state a { x 1: b; }", "",
        "state a { x 99999999: a; }", " " * 65537,
    )

    def test_it_is_the_same_after_the_call(self):
        for words in self.TEXTS:
            text = as_bytes(words)
            before = copy.copy(text)
            check(text)
            self.assertEqual(text, before)

    def test_it_is_not_changed_for_a_while(self):
        for words in self.TEXTS:
            check(Unchangeable(as_bytes(words)))

    def test_the_answer_is_not_what_was_handed_in(self):
        text = as_bytes("state a {}")
        answer = check(text)
        answer.append(7)
        self.assertEqual(text, as_bytes("state a {}"))
        self.assertEqual(check(text), [1])


class NothingIsKept(CheckCase):
    def test_a_second_call_answers_as_the_first(self):
        expected = (
            ("state a {} state b {}", [2]), ("state a { x 1: b; }", [-2]), ("state a {}", [1]), ("", [-2]),
            (" " * 65537, [-1]), ("state a {", [-2]), ("#", [-2]), ("state b {}", [1]),
        )
        for first, answer in expected:
            for second, other in expected:
                self.assertEqual(checked(first), answer)
                self.assertEqual(checked(second), other)
                self.assertEqual(checked(first), answer)

    def test_one_list_asked_twice(self):
        text = as_bytes("state a { x 1: a; } state b {}")
        self.assertEqual([check(text), check(text)], [[2], [2]])
        text.extend(as_bytes(" state c {}"))
        self.assertEqual(check(text), [3])

    def test_the_modules_stay_as_they_are(self):
        kept = modules_kept()
        checked("state a { x 1: a; } state b {}")
        checked("state a { x 1: c; }")
        self.assertEqual(modules_kept(), kept)

    def test_it_prints_and_imports_nothing(self):
        printed = io.StringIO()
        modules = sorted(sys.modules)
        with contextlib.redirect_stdout(printed), contextlib.redirect_stderr(printed):
            checked("state a {}")
            checked("state")
            checked(" " * 65537)
        self.assertEqual(printed.getvalue(), "")
        self.assertEqual(sorted(sys.modules), modules)


if __name__ == "__main__":
    unittest.main()
