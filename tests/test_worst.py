import random
import unittest
from fractions import Fraction

from calls import ChancesOfGoals, as_bytes, numbers_said, said
from chancechoices.chances import worst
from models import full_model, is_worst, random_model, worst_by_plans


def worst_of(goals, words):
    return said(worst(goals, 65536, as_bytes(words)))


def worst_numbers(goals, words):
    return numbers_said(worst(goals, 65536, as_bytes(words)))


class WhatIsCommon(ChancesOfGoals, unittest.TestCase):
    def ask_goals(self, goals, room, text):
        return worst(goals, room, text)


class Chances(unittest.TestCase):
    def test_the_worse_choice_wherever_it_stands(self):
        for order in ("x 1: b, c/2; y 1: b/3, c; z 1: b, c;", "y 1: b/3, c; x 1: b, c/2; z 1: b, c;",
                      "z 1: b, c; y 1: b/3, c; x 1: b, c/2;"):
            self.assertEqual(worst_of(2, "state a {" + order + "} state b {} state c {}"), "a 1/3\nb 1\nc 0\n")

    def test_gains_do_not_count(self):
        self.assertEqual(worst_of(2, "state a { x -1000: b/2, c; y 1000: b/3, c; } state b {} state c {}"),
                         "a 2/3\nb 1\nc 0\n")

    def test_the_only_choice_must_be_taken(self):
        self.assertEqual(worst_of(2, "state a { x 1: b; } state b {}"), "a 1\nb 1\n")
        self.assertEqual(worst_of(2, "state a { x 1: a/1000, b; } state b {}"), "a 1\nb 1\n")
        self.assertEqual(worst_of(4, "state a { x 1: b; } state b { y 1: a/1000, c; } state c {}"), "a 1\nb 1\nc 1\n")

    def test_waiting_for_ever_keeps_away(self):
        for order in ("wait 1: a; go 1: b;", "go 1: b; wait 1: a;"):
            self.assertEqual(worst_of(2, "state a {" + order + "} state b {}"), "a 0\nb 1\n")

    def test_going_round_for_ever_keeps_away(self):
        words = "state a { x 1: b; go 1: g; } state b { y 1: a; go 1: g; } state g {} state d { z 1: a/2, g; }"
        self.assertEqual(worst_of(4, words), "a 0\nb 0\ng 1\nd 1/3\n")

    def test_a_round_that_leaks_does_not_keep_away(self):
        words = "state a { x 1: b; } state b { y 1: a/999, g; z 1: a/9, l, g; } state g {} state l {}"
        self.assertEqual(worst_of(4, words), "a 1/2\nb 1/2\ng 1\nl 0\n")

    def test_trying_for_a_loss_again_and_again(self):
        words = "state a { once 1: l/9, g; often 1: l/1, a/9; } state g {} state l {}"
        self.assertEqual(worst_of(2, words), "a 0\ng 1\nl 0\n")
        words = "state a { once 1: l/3, g; often 1: l/9, a/90, g; } state g {} state l {}"
        self.assertEqual(worst_of(2, words), "a 1/10\ng 1\nl 0\n")

    def test_a_walk_between_two_ends(self):
        inner = "".join("state s%d { hold 1: s%d/9, s%d/2, s%d/3; step 1: s%d/2, s%d/3; even 1: s%d, s%d; }" % (
            k, k, k + 1, k - 1, k + 1, k - 1, k + 1, k - 1) for k in range(1, 15))
        numbers = worst_numbers(1 << 15, "state s0 {}" + inner + "state s15 {}")
        ratio = Fraction(3, 2)
        self.assertEqual(numbers, [(1 - ratio ** k) / (1 - ratio ** 15) for k in range(16)])


class ByOtherMeans(unittest.TestCase):
    def test_as_the_worst_of_all_plans(self):
        chance = random.Random(7)
        above = 0
        for turn in range(500):
            model = random_model(chance, states=5, choices=3, ways=5, weight=chance.choice((1, 3, 1000)),
                                 fewest_states=chance.choice((1, 4)))
            goals = 1 << chance.randrange(model.size) | (0 if turn % 2 else chance.randrange(1 << model.size))
            numbers = worst_numbers(goals, model.words())
            self.assertEqual(numbers, worst_by_plans(model, goals), (goals, model.words()))
            above += any(0 < number < 1 for number in numbers)
        self.assertGreater(above, 50)

    def test_numbers_that_fit_alone(self):
        chance = random.Random(8)
        for turn in range(150):
            model = random_model(chance, states=16, choices=8, ways=chance.choice((3, 8, 16)), weight=1000)
            goals = 1 << chance.randrange(model.size) | chance.randrange(1 << model.size)
            self.assertTrue(is_worst(model, goals, worst_numbers(goals, model.words())), (goals, model.words()))

    def test_the_largest_texts(self):
        for seed in range(4):
            for goals, ends, ways in ((1, (15,), 16), (1, (14, 15), 16), (0b10, (2, 3, 4), 16), (0x0ffc, (0, 1), 9)):
                model = full_model(seed, ends=ends, ways=ways)
                numbers = worst_numbers(goals, model.words())
                self.assertTrue(any(0 < number < 1 for number in numbers))
                self.assertTrue(is_worst(model, goals, numbers))

    def test_is_worst_finds_what_is_wrong(self):
        model = full_model(1, ends=(15,))
        numbers = worst_numbers(1, model.words())
        for place in range(16):
            wrong = list(numbers)
            wrong[place] += Fraction(1, 10 ** 80)
            self.assertFalse(is_worst(model, 1, wrong))


if __name__ == "__main__":
    unittest.main()
