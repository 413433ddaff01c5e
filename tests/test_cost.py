import random
import unittest
from fractions import Fraction

from calls import GoalsToo, as_bytes, numbers_said, said
from chancechoices.chances import cost
from models import cost_lines, costs_by_plans, full_model, is_cost, random_model


def cost_of(goals, words):
    return said(cost(goals, 65536, as_bytes(words)))


def cost_numbers(goals, words):
    return numbers_said(cost(goals, 65536, as_bytes(words)))


class WhatIsCommon(GoalsToo, unittest.TestCase):
    def ask_goals(self, goals, room, text):
        return cost(goals, room, text)


class GainsBelow1(unittest.TestCase):
    def test_gains_below_1(self):
        for gain in ("0", "-0", "-1", "-1000", "000"):
            for words in (
                "state a { x %s: a; } state b {}", "state a { y 1: b; x %s: a; } state b {}",
                "state b {} state a { x 1: a, b; y 5: b; z %s: b; }", "state a { x 1: b; } state b { y %s: a; }",
                "state a { y 1: a; } state b { y 1: b; } state c { x %s: c; }",
            ):
                for goals in (0, 1, 2, 3):
                    for room in (0, 5, 65536):
                        self.assertEqual(cost(goals, room, as_bytes(words.replace("%s", gain))), [-4])

    def test_gains_from_1_on(self):
        for gain in ("1", "2", "999", "1000", "0000001"):
            words = "state a { x " + gain + ": b; } state b { y " + gain + ": a; }"
            self.assertEqual(cost_of(2, words), "a " + str(int(gain)) + " x\nb 0\n")

    def test_what_is_told_first(self):
        free = as_bytes("state a { x 0: b; } state b {}")
        for goals, room, text, first in (
            (2, 0, free, -4), (2, 65536, free, -4), (0, 0, free, -4), (4, 0, free, -3), (65535, 65536, free, -3),
            (65536, 0, free, -1), (2, 65537, free, -1), (2, -1, free, -1), (-1, 0, free, -1),
            (2, 0, as_bytes("state a { x 0: b; }"), -2), (2, 0, as_bytes("state a { x 0: a; } state a {}"), -2),
            (4, 0, as_bytes("state a { x 0: b; }"), -2), (2, 0, free + [32] * 65536, -1),
        ):
            self.assertEqual(cost(goals, room, text), [first], (goals, room))


class Lines(unittest.TestCase):
    def test_the_answer_number_by_number(self):
        self.assertEqual(cost(2, 20, as_bytes("state a { x 7: b; } state b {} state c {}")),
                         [18, 97, 32, 55, 32, 120, 10, 98, 32, 48, 10, 99, 32, 110, 101, 118, 101, 114, 10])

    def test_lowest_terms(self):
        for gain, weights, told in ((1, (1, 1), "2"), (3, (9, 1), "10/3"), (1000, (1, 1000), "1001000"),
                                    (7, (7, 7), "14"), (6, (4, 6), "15"), (10, (400, 600), "25"), (5, (3, 4), "35/3")):
            words = "state a { x %d: b/%d, a/%d; } state b {}" % (gain, *weights)
            self.assertEqual(cost_of(2, words), "a " + told + " x\nb 0\n")

    def test_a_lone_choice_is_named_too(self):
        self.assertEqual(cost_of(2, "state a { only_one_there 1: b; } state b {}"), "a 1 only_one_there\nb 0\n")

    def test_names_of_16_bytes(self):
        self.assertEqual(cost_of(2, "state a { nnnnnnnnnnnnnnnn 1: mmmmmmmmmmmmmmmm; } state mmmmmmmmmmmmmmmm {}"),
                         "a 1 nnnnnnnnnnnnnnnn\nmmmmmmmmmmmmmmmm 0\n")

    def test_room_counts_the_choices_names(self):
        text = as_bytes("state a { x 7: b; } state b {} state c {}")
        for room in range(18):
            self.assertEqual(cost(2, room, text), [-7])
        self.assertEqual(cost(2, 18, text)[0], 18)


class Goals(unittest.TestCase):
    def test_goals_are_0_alone(self):
        self.assertEqual(cost_of(3, "state a { x 5: b; } state b { y 6: a; }"), "a 0\nb 0\n")
        self.assertEqual(cost_of(1, "state a { x 5: a; }"), "a 0\n")
        self.assertEqual(cost_of(1, "state a {}"), "a 0\n")

    def test_no_goal(self):
        self.assertEqual(cost_of(0, "state a { x 1: b; } state b {}"), "a never\nb never\n")

    def test_bit_i_is_the_ith_state(self):
        words = "".join("state s" + str(k) + " {}" for k in range(16))
        for k in range(16):
            self.assertEqual(cost_numbers(1 << k, words), [0 if k == j else None for j in range(16)])

    def test_a_state_without_choices_stays(self):
        self.assertEqual(cost_of(2, "state a {} state b {}"), "a never\nb 0\n")

    def test_the_nearest_of_two_goals(self):
        words = "state a { x 9: g; y 4: b; } state b { z 4: h; } state g {} state h {}"
        self.assertEqual(cost_of(0b1100, words), "a 8 y\nb 4 z\ng 0\nh 0\n")
        self.assertEqual(cost_of(0b0100, words), "a 9 x\nb never\ng 0\nh never\n")

    def test_a_goal_ends_the_cost(self):
        self.assertEqual(cost_of(2, "state a { x 2: b; } state b { y 3: c; } state c { z 4: a; }"),
                         "a 2 x\nb 0\nc 6 z\n")


class Never(unittest.TestCase):
    def test_some_chance_of_missing_the_goal(self):
        self.assertEqual(cost_of(2, "state a { x 1: b/1000, c; } state b {} state c {}"), "a never\nb 0\nc never\n")

    def test_going_round_for_ever(self):
        self.assertEqual(cost_of(4, "state a { x 1: b; } state b { y 1: a; } state c {}"), "a never\nb never\nc 0\n")

    def test_what_leads_to_never_is_never(self):
        words = """
            state d { x 1: a, g; } state a { x 1: b, g; } state b { x 1: b; } state g {}
            state e { x 1: d; y 2: g; }
        """
        self.assertEqual(cost_of(0b1000, words), "d never\na never\nb never\ng 0\ne 2 y\n")

    def test_what_leads_to_never_by_many_steps(self):
        for order in (range(1, 16), range(15, 0, -1)):
            inner = "".join("state s%d { x 1: s0, s%d; y 1: s%d; }" % (k, k + 1, k) for k in order if k < 15)
            words = "state s0 {} " + inner + "state s15 {}"
            self.assertEqual(cost_numbers(1, words), [0] + [None] * 15)

    def test_the_dear_choice_that_keeps_a_goal_sure(self):
        words = "state a { risk 1: g/999, l; safe 1000: g; } state g {} state l {}"
        self.assertEqual(cost_of(2, words), "a 1000 safe\ng 0\nl never\n")

    def test_a_choice_that_is_lost_later(self):
        words = """
            state a { cheap 1: b; dear 50: g; }
            state b { on 1: c, g; back 3: a; }
            state c { on 1: l, g; }
            state g {} state l {}
        """
        self.assertEqual(cost_of(8, words), "a 50 dear\nb 53 back\nc never\ng 0\nl never\n")

    def test_a_goal_that_is_sure_only_by_coming_back(self):
        words = "state a { try 1: g, b; } state b { back 2: a; end 1: l; } state g {} state l {}"
        self.assertEqual(cost_of(4, words), "a 4 try\nb 6 back\ng 0\nl never\n")


class Choices(unittest.TestCase):
    def test_the_cheaper_choice_wherever_it_stands(self):
        for order in ("x 5: g; y 4: g; z 6: g;", "y 4: g; x 5: g; z 6: g;", "z 6: g; x 5: g; y 4: g;"):
            self.assertEqual(cost_of(2, "state a {" + order + "} state g {}"), "a 4 y\ng 0\n")

    def test_the_first_of_those_that_cost_as_much(self):
        for order, first in (("x 4: g; y 2: g, a; z 4: g;", "x"), ("y 2: g, a; x 4: g; z 4: g;", "y"),
                             ("w 5: g; z 4: g; y 2: g, a; x 4: g;", "z"), ("w 1: g, a/9; y 1: g, a/3; x 4: g;", "y")):
            self.assertEqual(cost_of(2, "state a {" + order + "} state g {}"), "a 4 " + first + "\ng 0\n")

    def test_the_first_among_those_that_keep_a_goal_sure(self):
        words = "state a { risk 4: g, l; x 4: g; y 4: g; } state g {} state l {}"
        self.assertEqual(cost_of(2, words), "a 4 x\ng 0\nl never\n")
        words = "state a { wait 1: l; risk 1: g/1000, l; y 4: g; x 4: g; } state g {} state l { on 1: l; }"
        self.assertEqual(cost_of(2, words), "a 4 y\ng 0\nl never\n")

    def test_by_way_of_another_state_at_the_same_cost(self):
        words = "state a { over 1: b; straight 3: g; } state b { on 2: g; back 1: a; } state g {}"
        self.assertEqual(cost_of(4, words), "a 3 over\nb 2 on\ng 0\n")

    def test_waiting_costs(self):
        words = "state a { wait 1: a; go 1000: g; } state g {}"
        self.assertEqual(cost_of(2, words), "a 1000 go\ng 0\n")

    def test_often_and_cheap_or_once_and_dear(self):
        for gain, told in ((99, "99 once"), (100, "100 often"), (101, "100 often")):
            words = "state a { often 1: g, a/99; once %d: g; } state g {}" % gain
            self.assertEqual(cost_of(2, words), "a " + told + "\ng 0\n")

    def test_a_long_way_with_falling_back(self):
        words = "state s0 {}" + "".join("state s%d { step 1: s%d, s15/1000; }" % (k, k - 1) for k in range(1, 16))
        fall, expected = Fraction(1000, 1001), []
        whole = sum((1 / (1 - fall)) ** k for k in range(1, 16))
        numbers = cost_numbers(1, words)
        self.assertEqual(numbers[15], whole)
        for k in range(1, 16):
            expected.append(1 + (1 - fall) * numbers[k - 1] + fall * whole)
        self.assertEqual(numbers[1:], expected)


class ByOtherMeans(unittest.TestCase):
    def test_as_the_best_of_all_plans(self):
        chance = random.Random(12)
        kinds = set()
        for turn in range(600):
            model = random_model(chance, states=5, choices=3, ways=chance.choice((1, 2, 3)),
                                 weight=chance.choice((1, 3, 1000)), gains=(1, chance.choice((1, 3, 1000))),
                                 fewest_states=chance.choice((1, 4)))
            goals = 1 << chance.randrange(model.size) | (chance.randrange(1 << model.size) if turn % 4 == 0 else 0)
            numbers = costs_by_plans(model, goals)
            self.assertEqual(cost_of(goals, model.words()), cost_lines(model, goals, numbers), (goals, model.words()))
            kinds.add((None in numbers, any(number is not None and number.denominator > 1 for number in numbers)))
        self.assertEqual(len(kinds), 4)

    def test_numbers_that_fit_alone(self):
        chance = random.Random(13)
        for turn in range(150):
            model = random_model(chance, states=16, choices=8, ways=chance.choice((2, 3, 16)), weight=1000,
                                 gains=(1, chance.choice((2, 1000))))
            goals = 1 << chance.randrange(model.size) | (chance.randrange(1 << model.size) if turn % 2 else 0)
            numbers = cost_numbers(goals, model.words())
            self.assertTrue(is_cost(model, goals, numbers), (goals, model.words()))
            self.assertEqual(cost_of(goals, model.words()), cost_lines(model, goals, numbers))

    def test_the_largest_texts(self):
        for seed in range(4):
            for goals, ends, ways in ((1, (), 16), (1, (15,), 2), (0b10, (2, 3, 4), 2), (0b1100, (0, 1), 3)):
                model = full_model(seed, gains=(1, 1000), ends=ends, ways=ways)
                numbers = cost_numbers(goals, model.words())
                self.assertTrue(is_cost(model, goals, numbers))
                self.assertEqual(cost_of(goals, model.words()), cost_lines(model, goals, numbers))

    def test_is_cost_finds_what_is_wrong(self):
        model = full_model(1, gains=(1, 1000))
        numbers = cost_numbers(1, model.words())
        for place in range(16):
            for wrong_number in (numbers[place] + Fraction(1, 10 ** 80), None):
                wrong = list(numbers)
                wrong[place] = wrong_number
                self.assertFalse(is_cost(model, 1, wrong))


if __name__ == "__main__":
    unittest.main()
