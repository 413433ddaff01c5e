import random
import unittest
from fractions import Fraction

from calls import ChancesOfGoals, as_bytes, numbers_said, said
from chancechoices.chances import best
from models import best_by_plans, full_model, is_best, random_model


def best_of(goals, words):
    return said(best(goals, 65536, as_bytes(words)))


def best_numbers(goals, words):
    return numbers_said(best(goals, 65536, as_bytes(words)))


class WhatIsCommon(ChancesOfGoals, unittest.TestCase):
    def ask_goals(self, goals, room, text):
        return best(goals, room, text)


class Chances(unittest.TestCase):
    def test_the_better_choice_wherever_it_stands(self):
        for order in ("x 1: b, c/2; y 1: b/3, c; z 1: b, c;", "y 1: b/3, c; x 1: b, c/2; z 1: b, c;",
                      "z 1: b, c; x 1: b, c/2; y 1: b/3, c;"):
            self.assertEqual(best_of(2, "state a {" + order + "} state b {} state c {}"), "a 3/4\nb 1\nc 0\n")

    def test_gains_do_not_count(self):
        self.assertEqual(best_of(2, "state a { x -1000: b/2, c; y 1000: b, c; } state b {} state c {}"),
                         "a 2/3\nb 1\nc 0\n")

    def test_a_chance_that_comes_again_till_it_is_sure(self):
        self.assertEqual(best_of(2, "state a { x 1: a/1000, b; } state b {}"), "a 1\nb 1\n")
        self.assertEqual(best_of(4, "state a { x 1: b; } state b { y 1: a/1000, c; } state c {}"), "a 1\nb 1\nc 1\n")

    def test_a_choice_that_only_waits_is_no_better(self):
        for order in ("wait 1: a; go 1: b, c;", "go 1: b, c; wait 1: a;"):
            self.assertEqual(best_of(2, "state a {" + order + "} state b {} state c {}"), "a 1/2\nb 1\nc 0\n")

    def test_waiting_in_turns_is_no_better(self):
        words = """
            state a { to_b 1: b; go 1: goal, lost/2; }
            state b { to_a 1: a; to_c 1: c; }
            state c { to_a 1: a; to_b 1: b; go 1: goal, lost/3; }
            state goal {} state lost {}
        """
        self.assertEqual(best_of(8, words), "a 1/3\nb 1/3\nc 1/3\ngoal 1\nlost 0\n")

    def test_trying_again_beats_one_try(self):
        words = "state a { sure 1: g/9, l; slow 1: g/1, a/98, l/1; retry 1: g, a/9; } state g {} state l {}"
        self.assertEqual(best_of(2, words), "a 1\ng 1\nl 0\n")

    def test_a_walk_between_two_ends(self):
        inner = "".join("state s%d { step 1: s%d/2, s%d/3; }" % (k, k + 1, k - 1) for k in range(1, 15))
        numbers = best_numbers(1 << 15, "state s0 {}" + inner + "state s15 {}")
        ratio = Fraction(3, 2)
        self.assertEqual(numbers, [(1 - ratio ** k) / (1 - ratio ** 15) for k in range(16)])

    def test_bold_play(self):
        words = "state s0 {} state s8 {}" + "".join(
            "state s%d {" % have + "".join("bet%d 1: s%d/2, s%d/3; " % (bet, have + bet, have - bet)
                                           for bet in range(1, min(have, 8 - have) + 1)) + "}" for have in range(1, 8))
        win = Fraction(2, 5)
        numbers = best_numbers(2, words)
        self.assertEqual(numbers[:2], [0, 1])
        half = win
        quarter = win * half
        three_quarters = win + (1 - win) * half
        self.assertEqual([numbers[3], numbers[5], numbers[7]], [quarter, half, three_quarters])
        self.assertEqual([numbers[2], numbers[4]], [win * quarter, win * three_quarters])


class ByOtherMeans(unittest.TestCase):
    def test_as_the_best_of_all_plans(self):
        chance = random.Random(5)
        for turn in range(400):
            model = random_model(chance, states=5, choices=3, ways=3, weight=chance.choice((1, 3, 1000)))
            goals = chance.randrange(1 << model.size)
            if turn % 2 == 0:
                goals = 1 << chance.randrange(model.size)
            self.assertEqual(best_numbers(goals, model.words()), best_by_plans(model, goals), (goals, model.words()))

    def test_numbers_that_fit_alone(self):
        chance = random.Random(6)
        for turn in range(150):
            model = random_model(chance, states=16, choices=8, ways=chance.choice((2, 3, 16)), weight=1000)
            goals = 1 << chance.randrange(model.size)
            self.assertTrue(is_best(model, goals, best_numbers(goals, model.words())), (goals, model.words()))

    def test_the_largest_texts(self):
        for seed in range(4):
            for goals, ends, ways in ((1, (15,), 16), (1, (14, 15), 16), (0b10, (2, 3, 4), 3), (0b1100, (0, 1), 2)):
                model = full_model(seed, ends=ends, ways=ways)
                words = model.words()
                self.assertLessEqual(len(words), 65536)
                self.assertTrue(is_best(model, goals, best_numbers(goals, words)))

    def test_is_best_finds_what_is_wrong(self):
        model = full_model(1, ends=(15,))
        numbers = best_numbers(1, model.words())
        for place in range(16):
            wrong = list(numbers)
            wrong[place] += Fraction(1, 10 ** 80)
            self.assertFalse(is_best(model, 1, wrong))
        self.assertFalse(is_best(full_model(1), 0, [Fraction(1)] * 16))


if __name__ == "__main__":
    unittest.main()
