import random
import sys
import unittest
from fractions import Fraction

from calls import ChancesOfGoals, as_bytes, few_calls_within_one_another, numbers_said, said
from chancechoices.chances import best, within
from models import Choice, Model, full_model, random_model, within_by_plans, within_by_steps


def within_of(goals, steps, words):
    return said(within(goals, steps, 65536, as_bytes(words)))


def within_numbers(goals, steps, words):
    return numbers_said(within(goals, steps, 65536, as_bytes(words)))


class WhatIsCommon(ChancesOfGoals, unittest.TestCase):
    def ask_goals(self, goals, room, text):
        return within(goals, 7, room, text)


class WhatIsCommonAtMostSteps(ChancesOfGoals, unittest.TestCase):
    def ask_goals(self, goals, room, text):
        return within(goals, 64, room, text)


class StepsOutOfRange(unittest.TestCase):
    GOOD = as_bytes("state a { x 1: a, b; } state b {}")

    def test_steps_out_of_range(self):
        for steps in (-2147483648, -64, -1, 65, 66, 128, 2147483647):
            for goals in (0, 2, 4, 65536, -1):
                for room in (0, 65536, 65537):
                    for text in (self.GOOD, as_bytes("state"), [], [32] * 65537):
                        self.assertEqual(within(goals, steps, room, text), [-1])

    def test_every_number_of_steps_within(self):
        for steps in range(65):
            chance = Fraction(2 ** steps - 1, 2 ** steps)
            self.assertEqual(numbers_said(within(2, steps, 65536, self.GOOD)), [chance, 1])

    def test_what_is_told_first_at_the_edges_of_steps(self):
        for steps in (0, 64):
            self.assertEqual(within(2, steps, 0, as_bytes("state")), [-2])
            self.assertEqual(within(4, steps, 0, self.GOOD), [-3])
            self.assertEqual(within(2, steps, 0, self.GOOD), [-7])
            self.assertEqual(within(65536, steps, 0, self.GOOD), [-1])


class Steps(unittest.TestCase):
    def test_no_step(self):
        self.assertEqual(within_of(2, 0, "state a { x 1: b; } state b {} state c {}"), "a 0\nb 1\nc 0\n")
        self.assertEqual(within_of(0, 0, "state a { x 1: a; }"), "a 0\n")
        self.assertEqual(within_of(3, 0, "state a { x 1: a; } state b {}"), "a 1\nb 1\n")

    def test_a_row_of_states(self):
        words = "".join("state s%d { on 1: s%d; }" % (k, k + 1) for k in range(15)) + "state s15 {}"
        for steps in range(20):
            self.assertEqual(within_numbers(1 << 15, steps, words), [int(15 - k <= steps) for k in range(16)])

    def test_one_step_and_more(self):
        words = "state a { x 1: b/2, a; } state b {}"
        self.assertEqual([within_of(2, steps, words) for steps in (1, 2, 3)],
                         ["a 2/3\nb 1\n", "a 8/9\nb 1\n", "a 26/27\nb 1\n"])

    def test_the_last_step_is_chosen_otherwise(self):
        words = "state a { try 1: g, a/2; plan 1: b; } state b { go 1: g/9, l; } state g {} state l {}"
        self.assertEqual([within_of(4, steps, words).splitlines()[0] for steps in range(5)],
                         ["a 0", "a 1/3", "a 9/10", "a 14/15", "a 43/45"])

    def test_a_goal_that_was_come_to_counts_by_then(self):
        words = "state a { x 1: g; } state g { away 1: l; } state l {}"
        for steps in (1, 2, 3, 64):
            self.assertEqual(within_of(2, steps, words), "a 1\ng 1\nl 0\n")

    def test_no_step_backward_is_forced(self):
        words = "state a { x 1: g, b; } state b { back 1: a; stay 1: b; } state g {}"
        self.assertEqual([within_of(4, steps, words) for steps in (1, 2, 3)],
                         ["a 1/2\nb 0\ng 1\n", "a 1/2\nb 1/2\ng 1\n", "a 3/4\nb 1/2\ng 1\n"])

    def test_gains_do_not_count(self):
        self.assertEqual(within_of(2, 1, "state a { x -1000: b/2, c; y 1000: b, c; } state b {} state c {}"),
                         "a 2/3\nb 1\nc 0\n")


class ByOtherMeans(unittest.TestCase):
    def test_as_step_by_step(self):
        chance = random.Random(9)
        for turn in range(300):
            model = random_model(chance, states=6, choices=4, ways=4, weight=chance.choice((1, 3, 1000)))
            goals = 1 << chance.randrange(model.size) | chance.randrange(1 << model.size)
            steps = chance.choice((0, 1, 2, 3, 4, 5, 8))
            self.assertEqual(within_numbers(goals, steps, model.words()), within_by_steps(model, goals, steps))

    def test_as_the_best_of_all_plans_for_each_step(self):
        chance = random.Random(10)
        for turn in range(60):
            model = random_model(chance, states=3, choices=2, ways=3, weight=9)
            goals = 1 << chance.randrange(model.size)
            for steps in range(4):
                self.assertEqual(within_numbers(goals, steps, model.words()), within_by_plans(model, goals, steps))

    def test_more_steps_are_no_worse_and_never_beat_best(self):
        chance = random.Random(11)
        for turn in range(30):
            model = random_model(chance, states=8, choices=3, ways=3, weight=20)
            goals = 1 << chance.randrange(model.size)
            rows = [within_numbers(goals, steps, model.words()) for steps in (0, 1, 2, 3, 10, 64)]
            rows.append(numbers_said(best(goals, 65536, as_bytes(model.words()))))
            for earlier, later in zip(rows, rows[1:]):
                self.assertTrue(all(a <= b for a, b in zip(earlier, later)))


class LargeNumbers(unittest.TestCase):
    def wide(self, states, seed=3):
        """Every total is another one, without common divisors as far as can be: long bottoms."""
        chance = random.Random(seed)
        names = ["s" + str(k) for k in range(states)]
        return Model(names, [[]] + [[Choice("c" + str(number), 1, {
            to: chance.randint(900, 1000) for to in range(states)}) for number in range(8)] for k in range(1, states)])

    def test_long_fractions_that_fit(self):
        model = self.wide(9)
        given = within(1, 64, 65536, as_bytes(model.words()))
        self.assertGreater(given[0], 20000)
        self.assertEqual(numbers_said(given), within_by_steps(model, 1, 64))
        self.assertEqual(within(1, 64, given[0], as_bytes(model.words())), given)
        self.assertEqual(within(1, 64, given[0] - 1, as_bytes(model.words())), [-7])

    def test_what_python_allows_to_be_written_does_not_matter(self):
        text = as_bytes(self.wide(6).words())
        before = within(1, 64, 65536, text)
        self.assertGreater(before[0], 10000)
        limit = sys.get_int_max_str_digits()
        sys.set_int_max_str_digits(640)
        try:
            self.assertEqual(within(1, 64, 65536, text), before)
        finally:
            sys.set_int_max_str_digits(limit)

    def test_the_largest_texts(self):
        for ends in ((), (15,)):
            model = full_model(2, ends=ends)
            text = as_bytes(model.words())
            self.assertEqual(within(1, 64, 65536, text), [-7])
            for steps in (1, 2, 6):
                self.assertEqual(numbers_said(within(1, steps, 65536, text)), within_by_steps(model, 1, steps))

    def test_just_as_many_bytes_as_room_can_be(self):
        words = "state g {} state a { x 1: g/1000, a/997; } state b { x 1: g/999, a/13, b/991; }"
        whole = within(1, 64, 65536, as_bytes(words))
        self.assertEqual(within(1, 64, whole[0], as_bytes(words)), whole)
        self.assertEqual(within(1, 64, whole[0] - 1, as_bytes(words)), [-7])

    def test_calls_within_one_another_stay_few(self):
        text = as_bytes(self.wide(5).words())
        with few_calls_within_one_another():
            given = within(1, 64, 65536, text)
        self.assertEqual(given, within(1, 64, 65536, text))


if __name__ == "__main__":
    unittest.main()
