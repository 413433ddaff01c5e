"""What holds over all the calls together."""
import contextlib
import inspect
import io
import itertools
import sys
import unittest

from calls import Unchangeable, as_bytes, few_calls_within_one_another, modules_kept, said
from chancechoices import chances
from chancechoices.chances import best, check, cost, within, worst, worth
from models import full_model

ARGUMENTS = {
    "check": ["text"], "best": ["goals", "room", "text"], "worst": ["goals", "room", "text"],
    "within": ["goals", "steps", "room", "text"], "cost": ["goals", "room", "text"],
    "worth": ["p", "q", "room", "text"],
}
TEXTS = tuple(as_bytes(words) for words in (
    "state a { x 1: a, b; y 2: b, c/3; } state b {} state c { z 5: a; }", "state b {} state a { x 9: b, a/8; }",
    "state a { x 1: b; }", "", "state a { x -3: a; y 0: b; } state b { z 4: a/1000; }",
))


def every_call(text):
    return [
        lambda: check(text), lambda: best(2, 65536, text), lambda: worst(2, 65536, text),
        lambda: within(2, 5, 65536, text), lambda: cost(2, 65536, text), lambda: worth(1, 2, 65536, text),
        lambda: best(64, 65536, text), lambda: worst(1, 3, text), lambda: within(1, 65, 9, text),
        lambda: cost(1, 0, text), lambda: worth(2, 2, 65536, text),
    ]


class Interface(unittest.TestCase):
    def test_the_calls_and_their_arguments(self):
        for name, arguments in ARGUMENTS.items():
            given = inspect.signature(getattr(chances, name)).parameters
            self.assertEqual(list(given), arguments)
            self.assertTrue(all(one.default is inspect.Parameter.empty for one in given.values()))

    def test_arguments_by_name(self):
        text = TEXTS[0]
        self.assertEqual(check(text=text), [3])
        self.assertEqual(best(text=text, room=99, goals=2), best(2, 99, text))
        self.assertEqual(worst(text=text, room=99, goals=2), worst(2, 99, text))
        self.assertEqual(within(text=text, room=99, steps=3, goals=2), within(2, 3, 99, text))
        self.assertEqual(cost(text=text, room=99, goals=2), cost(2, 99, text))
        self.assertEqual(worth(text=text, room=99, q=3, p=2), worth(2, 3, 99, text))


class EachByItself(unittest.TestCase):
    def test_any_two_calls_in_either_order(self):
        calls = [call for text in TEXTS for call in every_call(text)]
        alone = [call() for call in calls]
        for (one, first), (two, second) in itertools.product(zip(calls, alone), repeat=2):
            self.assertEqual((one(), two()), (first, second))

    def test_the_modules_stay_as_they_are_and_nothing_is_printed_or_imported(self):
        kept = modules_kept()
        imported = sorted(sys.modules)
        printed = io.StringIO()
        with contextlib.redirect_stdout(printed), contextlib.redirect_stderr(printed):
            for text in TEXTS:
                for call in every_call(Unchangeable(text)):
                    call()
        self.assertEqual(modules_kept(), kept)
        self.assertEqual(sorted(sys.modules), imported)
        self.assertEqual(printed.getvalue(), "")

    def test_one_list_that_is_changed_between_two_calls(self):
        text = as_bytes("state a { x 1: b; } state b {}")
        before = [call() for call in every_call(text)]
        text.extend(as_bytes(" state c { y 7: c, a; }"))
        after = [call() for call in every_call(text)]
        self.assertEqual(after, [call() for call in every_call(list(text))])
        self.assertNotEqual(after, before)
        del text[len("state a { x 1: b; } state b {}"):]
        self.assertEqual([call() for call in every_call(text)], before)


class TheLargest(unittest.TestCase):
    def test_calls_within_one_another_stay_few(self):
        text = as_bytes(full_model(1, gains=(1, 1000)).words())
        text += [35, 10] * ((65536 - len(text)) // 2)
        with few_calls_within_one_another():
            given = [check(text), best(1, 65536, text), worst(1, 65536, text), within(1, 3, 65536, text),
                     cost(1, 65536, text), worth(999, 1000, 65536, text)]
        self.assertEqual(given[0], [16])
        for answer in given[1:]:
            self.assertEqual(said(answer).count("\n"), 16)
            self.assertLess(len(answer), 1000000)


class OneWithAnother(unittest.TestCase):
    def chances_of(self, call, model, goals):
        return [line.split(" ")[1] for line in said(call(goals, 65536, as_bytes(model.words()))).splitlines()]

    def test_where_the_worst_is_sure_a_cost_is_told(self):
        model = full_model(5, gains=(1, 1000))
        self.assertEqual(self.chances_of(worst, model, 1), ["1"] * 16)
        self.assertEqual(self.chances_of(best, model, 1), ["1"] * 16)
        self.assertNotIn("never", self.chances_of(cost, model, 1))

    def test_a_cost_is_told_just_where_the_best_is_sure(self):
        for seed in range(20):
            model = full_model(seed, gains=(1, 9), ends=range(8, 16), ways=1 + seed % 2)
            sure = [chance == "1" for chance in self.chances_of(best, model, 1 << 8)]
            self.assertEqual([told != "never" for told in self.chances_of(cost, model, 1 << 8)], sure)


if __name__ == "__main__":
    unittest.main()
