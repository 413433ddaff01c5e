import random
import unittest
from fractions import Fraction

from calls import RoomAndText, as_bytes, numbers_said, said
from chancechoices.chances import worth
from models import full_model, is_worth, random_model, worth_lines, worths_by_plans

FINE = as_bytes("state a { x 3: a; } state b {}")
WRONG = as_bytes("state a {")
FAR = [32] * 65537


def worth_of(p, q, words):
    return said(worth(p, q, 65536, as_bytes(words)))


def worth_numbers(p, q, words):
    return numbers_said(worth(p, q, 65536, as_bytes(words)))


class WhatIsCommon(RoomAndText, unittest.TestCase):
    def ask_bytes(self, room, text):
        return worth(2, 3, room, text)


class PAndQ(unittest.TestCase):
    def test_q_out_of_range(self):
        for q in (-2147483648, -1000, -2, -1, 0, 1, 1001, 1002, 2147483647):
            for p in (-2147483648, -1, 0, 1, 500, 2147483647):
                for room in (0, 65536, 65537):
                    for text in (FINE, WRONG, FAR):
                        self.assertEqual(worth(p, q, room, text), [-1], (p, q))

    def test_p_out_of_range(self):
        for q in (2, 3, 10, 999, 1000):
            for p in (-2147483648, -q, -1, q, q + 1, 1000000, 2147483647):
                for room in (0, 65536, 65537):
                    for text in (FINE, WRONG, FAR):
                        self.assertEqual(worth(p, q, room, text), [-1], (p, q))

    def test_all_that_may_be(self):
        for q in list(range(2, 30)) + [999, 1000]:
            for p in {0, 1, q // 2, q - 2, q - 1}:
                self.assertEqual(numbers_said(worth(p, q, 65536, FINE)), [Fraction(3 * q, q - p), 0])

    def test_what_is_told_first(self):
        for p, q, room, text, first in (
            (1, 2, 0, FINE, -7), (1, 2, 0, WRONG, -2), (1, 2, 65536, WRONG, -2), (1, 2, 65537, WRONG, -1),
            (1, 2, -1, FINE, -1), (2, 2, 0, WRONG, -1), (0, 1, 0, WRONG, -1), (999, 1000, 0, WRONG, -2),
            (0, 2, 0, FAR, -1), (1000, 1000, 0, FINE, -1), (999, 1000, 0, FINE, -7),
        ):
            self.assertEqual(worth(p, q, room, text), [first], (p, q, room))


class Lines(unittest.TestCase):
    def test_the_answer_number_by_number(self):
        self.assertEqual(worth(1, 3, 14, as_bytes("state a { x -7: a; } state b {}")),
                         [14, 97, 32, 45, 50, 49, 47, 50, 32, 120, 10, 98, 32, 48, 10])

    def test_numbers_below_0(self):
        self.assertEqual(worth_of(1, 2, "state a { x -7: a; }"), "a -14 x\n")
        self.assertEqual(worth_of(2, 3, "state a { x -1: b; } state b { y -1: c; } state c {}"),
                         "a -5/3 x\nb -1 y\nc 0\n")
        self.assertEqual(worth_of(1, 2, "state a { x -1000: b; } state b { y 1: c, b; } state c {}"),
                         "a -2998/3 x\nb 4/3 y\nc 0\n")

    def test_nothing_gained(self):
        self.assertEqual(worth_of(1, 2, "state a { x 0: a; y -0: b; } state b {}"), "a 0 x\nb 0\n")
        self.assertEqual(worth_of(1, 2, "state a { x -1: b; } state b { y 2: c; } state c {}"), "a 0 x\nb 2 y\nc 0\n")

    def test_states_without_choices_are_0_alone(self):
        self.assertEqual(worth_of(999, 1000, "state a {} state b {}"), "a 0\nb 0\n")

    def test_a_lone_choice_is_named_too(self):
        self.assertEqual(worth_of(0, 2, "state a { nnnnnnnnnnnnnnnn 1000: a; }"), "a 1000 nnnnnnnnnnnnnnnn\n")

    def test_room_counts_the_choices_names(self):
        text = as_bytes("state a { longer 7: b; } state b {}")
        for room in range(15):
            self.assertEqual(worth(1, 2, room, text), [-7])
        self.assertEqual(said(worth(1, 2, 15, text)), "a 7 longer\nb 0\n")


class Worths(unittest.TestCase):
    def test_what_comes_later_counts_p_out_of_q(self):
        words = "state a { x 1: b; } state b { x 10: c; } state c { x 100: d; } state d {}"
        self.assertEqual(worth_numbers(1, 10, words), [3, 20, 100, 0])
        self.assertEqual(worth_numbers(0, 10, words), [1, 10, 100, 0])
        self.assertEqual(worth_numbers(2, 3, words), [Fraction(9 + 60 + 400, 9), Fraction(30 + 200, 3), 100, 0])

    def test_p_and_q_need_not_be_in_lowest_terms(self):
        words = "state a { x 3: a, b/2; y 1: b; } state b { z 5: a; w 4: b/7, a; }"
        for times in (2, 3, 100):
            self.assertEqual(worth_of(times, 2 * times, words), worth_of(1, 2, words))

    def test_now_or_later(self):
        words = "state a { now 10: c; later 0: b; } state b { get 20: c; } state c {}"
        self.assertEqual(worth_of(0, 2, words).splitlines()[0], "a 10 now")
        self.assertEqual(worth_of(499, 1000, words).splitlines()[0], "a 10 now")
        self.assertEqual(worth_of(501, 1000, words).splitlines()[0], "a 501/50 later")

    def test_for_ever_or_once(self):
        words = "state a { once 1000: b; ever 10: a; } state b {}"
        self.assertEqual(worth_of(98, 100, words), "a 1000 once\nb 0\n")
        self.assertEqual(worth_of(991, 1000, words), "a 10000/9 ever\nb 0\n")

    def test_the_loss_that_is_least(self):
        words = "state a { x -5: a; y -9: b; z -10: b; } state b {}"
        self.assertEqual(worth_of(1, 2, words), "a -9 y\nb 0\n")
        self.assertEqual(worth_of(1, 3, words), "a -15/2 x\nb 0\n")

    def test_one_may_not_stop_where_there_are_choices(self):
        self.assertEqual(worth_of(1, 2, "state a { x -1: a; } state b {}"), "a -2 x\nb 0\n")

    def test_by_chance(self):
        words = "state a { x 6: a, b/3; } state b { y -3: a/2, c; } state c {}"
        # a = 6 + 1/2 (a/4 + 3b/4) and b = -3 + 1/2 * 2a/3
        self.assertEqual(worth_of(1, 2, words), "a 13/2 x\nb -5/6 y\nc 0\n")


class Choices(unittest.TestCase):
    def test_the_first_of_those_that_bring_as_much(self):
        for order, first in (("x 4: b; y 2: a; z 4: b;", "x"), ("y 2: a; x 4: b; z 4: b;", "y"),
                             ("w 3: b; z 4: b; y 2: a; x 4: b;", "z"), ("w -5: a; v 3: b, a/1; y 2: a; x 4: b;", "v")):
            told = worth_of(1, 2, "state a {" + order + "} state b {}").splitlines()[0]
            self.assertEqual(told.split(" ")[2], first)

    def test_with_p_0_gains_alone_count(self):
        words = "state a { x 1: b; y 2: c; z 2: b; } state b { w 1000: b; } state c {}"
        self.assertEqual(worth_of(0, 1000, words), "a 2 y\nb 1000 w\nc 0\n")

    def test_the_better_choice_wherever_it_stands(self):
        for order in ("x 3: b; y 4: b; z 2: b;", "y 4: b; x 3: b; z 2: b;", "z 2: b; x 3: b; y 4: b;"):
            self.assertEqual(worth_of(1, 2, "state a {" + order + "} state b {}"), "a 4 y\nb 0\n")


class ByOtherMeans(unittest.TestCase):
    def test_as_the_best_of_all_plans(self):
        chance = random.Random(14)
        for turn in range(400):
            most = chance.choice((1, 3, 1000))
            model = random_model(chance, states=4, choices=3, ways=3, weight=chance.choice((1, 3, 1000)),
                                 gains=(-most, most), fewest_states=chance.choice((1, 3)))
            q = chance.choice((2, 3, 10, 1000))
            p = chance.choice((0, 1, q - 1, chance.randrange(q)))
            numbers = worths_by_plans(model, Fraction(p, q))
            self.assertEqual(worth_of(p, q, model.words()), worth_lines(model, Fraction(p, q), numbers),
                             (p, q, model.words()))

    def test_numbers_that_fit_alone(self):
        chance = random.Random(15)
        for turn in range(120):
            most = chance.choice((1, 2, 1000))
            model = random_model(chance, states=16, choices=8, ways=chance.choice((2, 3, 16)), weight=1000,
                                 gains=(-most, most))
            q = chance.choice((2, 997, 1000))
            p = chance.choice((0, q - 1, chance.randrange(q)))
            numbers = worth_numbers(p, q, model.words())
            self.assertTrue(is_worth(model, Fraction(p, q), numbers), (p, q, model.words()))
            self.assertEqual(worth_of(p, q, model.words()), worth_lines(model, Fraction(p, q), numbers))

    def test_the_largest_texts(self):
        for seed in range(4):
            for p, q, ends, ways in ((999, 1000, (), 16), (996, 997, (), 16), (1, 2, (15,), 16), (999, 1000, (), 2)):
                model = full_model(seed, ends=ends, ways=ways)
                numbers = worth_numbers(p, q, model.words())
                self.assertTrue(is_worth(model, Fraction(p, q), numbers))
                self.assertEqual(worth_of(p, q, model.words()), worth_lines(model, Fraction(p, q), numbers))

    def test_is_worth_finds_what_is_wrong(self):
        model = full_model(1)
        numbers = worth_numbers(999, 1000, model.words())
        for place in range(16):
            wrong = list(numbers)
            wrong[place] += Fraction(1, 10 ** 200)
            self.assertFalse(is_worth(model, Fraction(999, 1000), wrong))


if __name__ == "__main__":
    unittest.main()
