"""What the tests of several calls have in common."""
import contextlib
import io
import sys
from fractions import Fraction

from chancechoices import chances, texts


def as_bytes(words):
    return list(words.encode("latin-1"))


def said(answer):
    """The words of an answer; a refusal stays as it is."""
    if len(answer) == 1 and answer[0] < 0:
        return answer
    assert answer[0] == len(answer) - 1, answer
    return bytes(answer[1:]).decode("latin-1")


def numbers_said(answer):
    """The lines' numbers; None for "never"."""
    told = [line.split(" ")[1] for line in said(answer).splitlines()]
    return [None if number == "never" else Fraction(number) for number in told]


class Unchangeable(list):
    """A list that refuses every change, so that not even a change that is undone passes."""

    def refuse(self, *given, **named):
        raise AssertionError("the text was changed")

    __setitem__ = __delitem__ = __iadd__ = __imul__ = refuse
    append = extend = insert = pop = remove = clear = sort = reverse = refuse


def modules_kept():
    return {module.__name__ + "." + name: repr(value) for module in (chances, texts)
            for name, value in vars(module).items() if name != "__builtins__"}


@contextlib.contextmanager
def few_calls_within_one_another(most=40):
    depth = 0
    frame = sys._getframe()
    while frame is not None:
        depth += 1
        frame = frame.f_back
    limit = sys.getrecursionlimit()
    sys.setrecursionlimit(depth + most)
    try:
        yield
    finally:
        sys.setrecursionlimit(limit)


class RoomAndText:
    """For a test case of a call that tells lines. `ask(room, words)` calls it with nothing else amiss."""

    GOOD = "state a { x 2: a, b/3; y 5: b; } state b {}"
    EDGES_BEYOND = (-2147483648, -65536, -1)

    def lines(self, words, room=65536):
        return said(self.ask(room, words))

    def test_room_that_is_just_enough(self):
        enough = self.ask(65536, self.GOOD)[0]
        self.assertGreater(enough, 0)
        for room in (enough, enough + 1, 1000, 65535):
            self.assertEqual(self.ask(room, self.GOOD), self.ask(65536, self.GOOD))
        for room in list(range(enough)):
            self.assertEqual(self.ask(room, self.GOOD), [-7])

    def test_room_out_of_range(self):
        for room in self.EDGES_BEYOND + (65537, 65538, 131072, 2147483647):
            for words in (self.GOOD, "state a {", "", " " * 65537):
                self.assertEqual(self.ask(room, words), [-1])

    def test_what_is_no_such_text(self):
        for words in ("", "#", "state", "state a {", "state a {} state a {}", "state a { x 1: b; }",
                      "state a { x 1001: a; }", "state a { x 1: a/0; }",
                      "".join("state s" + str(k) + " {}" for k in range(17))):
            for room in (0, 1, 65536):
                self.assertEqual(self.ask(room, words), [-2], words)

    def test_how_long_a_text_may_be(self):
        for length in (65535, 65536):
            self.assertEqual(self.ask(65536, self.GOOD.ljust(length)), self.ask(65536, self.GOOD))
            self.assertEqual(self.ask(0, self.GOOD.ljust(length)), [-7])
            self.assertEqual(self.ask(65536, "{".ljust(length)), [-2])
        for length in (65537, 65538, 131072):
            for words in (self.GOOD, "{", ""):
                self.assertEqual(self.ask(65536, words.ljust(length)), [-1])
                self.assertEqual(self.ask(0, words.ljust(length)), [-1])

    def test_lines_have_the_states_names_in_the_texts_order(self):
        names = ["z", "B", "a_1", "n" * 16, "A", "b", "state", "Zz_09"]
        words = "".join("state " + name + " { go 1: z, b; }" for name in names)
        self.assertEqual([line.split(" ")[0] for line in self.lines(words).splitlines()], names)
        self.assertTrue(self.lines(words).endswith("\n"))

    def test_kinds(self):
        for room, words in ((65536, self.GOOD), (0, self.GOOD), (65536, "state"), (-1, self.GOOD)):
            given = self.ask(room, words)
            self.assertIs(type(given), list)
            self.assertEqual({type(number) for number in given}, {int})
            self.assertTrue(all(0 <= number <= 255 for number in given[1:]))

    def test_what_is_handed_in_is_not_changed(self):
        for room, words in ((65536, self.GOOD), (0, self.GOOD), (65536, "state a { x 1: b; }"), (-1, self.GOOD),
                            (65536, " " * 65537)):
            text = as_bytes(words)
            self.ask_bytes(room, text)
            self.assertEqual(text, as_bytes(words))
            self.ask_bytes(room, Unchangeable(as_bytes(words)))

    def test_a_second_call_answers_as_the_first(self):
        asked = [(65536, self.GOOD), (0, self.GOOD), (65536, "state b {} state a { x 9: b/7, a; }"), (65536, "state"),
                 (-1, self.GOOD), (1, "state a {} state b {}"), (65536, "state a {} state b {}")]
        first = [self.ask(room, words) for room, words in asked]
        for k, one in enumerate(asked):
            for j, other in enumerate(asked):
                self.assertEqual([self.ask(*one), self.ask(*other), self.ask(*one)], [first[k], first[j], first[k]])

    def test_an_answer_that_is_changed_changes_no_later_one(self):
        text = as_bytes(self.GOOD)
        given = self.ask_bytes(65536, text)
        kept = list(given)
        given.append(7)
        given[0] = -5
        self.assertEqual(self.ask_bytes(65536, text), kept)
        self.assertEqual(text, as_bytes(self.GOOD))

    def test_nothing_is_kept_printed_or_imported(self):
        kept = modules_kept()
        printed = io.StringIO()
        imported = sorted(sys.modules)
        with contextlib.redirect_stdout(printed), contextlib.redirect_stderr(printed):
            for room, words in ((65536, self.GOOD), (0, self.GOOD), (65536, "state"), (-1, self.GOOD)):
                self.ask(room, words)
        self.assertEqual(printed.getvalue(), "")
        self.assertEqual(sorted(sys.modules), imported)
        self.assertEqual(modules_kept(), kept)

    def test_calls_within_one_another_stay_few(self):
        long = as_bytes(self.GOOD + "#\n" * ((65536 - len(self.GOOD)) // 2))
        short = as_bytes(self.GOOD)
        with few_calls_within_one_another():
            given = self.ask_bytes(65536, long)
        self.assertEqual(given, self.ask_bytes(65536, short))

    def ask(self, room, words):
        return self.ask_bytes(room, as_bytes(words))


class GoalsToo(RoomAndText):
    """For a call with goals. `ask_goals(goals, room, text)` calls it with nothing else amiss."""

    def ask_bytes(self, room, text):
        return self.ask_goals(2, room, text)

    def states(self, count):
        return as_bytes("".join("state s" + str(k) + " { go 1: s0; }" for k in range(count)))

    def test_goals_out_of_range(self):
        for goals in (-2147483648, -65536, -2, -1, 65536, 65537, 131072, 2147483647):
            for text in (self.states(16), self.states(1), as_bytes("state"), []):
                for room in (0, 65536):
                    self.assertEqual(self.ask_goals(goals, room, text), [-1])

    def test_a_goal_that_is_no_state(self):
        for count in range(1, 17):
            text = self.states(count)
            for bit in range(16):
                for goals in (1 << bit, 1 << bit | 1, (1 << bit + 1) - 1):
                    given = self.ask_goals(goals, 65536, text)
                    if bit < count:
                        self.assertEqual(said(given).count("\n"), count)
                    else:
                        self.assertEqual(given, [-3])
                        self.assertEqual(self.ask_goals(goals, 0, text), [-3])

    def test_no_goal_and_nothing_but_goals_are_allowed(self):
        for count in range(1, 17):
            for goals in (0, (1 << count) - 1):
                self.assertGreater(self.ask_goals(goals, 65536, self.states(count))[0], 0)

    def test_what_is_told_first(self):
        fine, wrong, far = as_bytes(self.GOOD), as_bytes("state a {"), [32] * 65537
        for goals, room, text, first in (
            (65536, 65536, fine, -1), (4, 65537, fine, -1), (4, -1, fine, -1), (4, 0, fine, -3), (4, 65536, fine, -3),
            (65535, 0, fine, -3), (1, 0, fine, -7), (65536, 0, wrong, -1), (65535, 0, wrong, -2), (4, 0, wrong, -2),
            (1, 0, wrong, -2), (1, 65537, wrong, -1), (-1, -1, wrong, -1), (65535, 0, far, -1), (0, 0, fine, -7),
        ):
            self.assertEqual(self.ask_goals(goals, room, text), [first], (goals, room))


class ChancesOfGoals(GoalsToo):
    """For a call that tells chances of coming to a goal."""

    def told(self, goals, words):
        return said(self.ask_goals(goals, 65536, as_bytes(words)))

    def test_the_answer_number_by_number(self):
        self.assertEqual(self.ask_goals(1, 18, as_bytes("state b {} state A_9 { go -3: b/2, end; } state end {}")),
                         [18, 98, 32, 49, 10, 65, 95, 57, 32, 50, 47, 51, 10, 101, 110, 100, 32, 48, 10])

    def test_lowest_terms(self):
        for first, second, told in ((1, 1, "1/2"), (2, 2, "1/2"), (1000, 1000, "1/2"), (6, 4, "3/5"), (7, 3, "7/10"),
                                    (999, 1, "999/1000"), (1, 999, "1/1000"), (10, 990, "1/100"), (400, 600, "2/5")):
            words = "state a { x 0: b/" + str(first) + ", c/" + str(second) + "; } state b {} state c {}"
            self.assertEqual(self.told(2, words), "a " + told + "\nb 1\nc 0\n")

    def test_a_weight_that_is_not_told_is_1(self):
        self.assertEqual(self.told(2, "state a { x 0: b, c/2; } state b {} state c {}"), "a 1/3\nb 1\nc 0\n")

    def test_no_choice_is_named(self):
        self.assertEqual(self.told(2, "state a { x 1: b; y 1: b; } state b { z 1: a; }"), "a 1\nb 1\n")

    def test_no_goal(self):
        self.assertEqual(self.told(0, "state a { x 1: b; } state b {}"), "a 0\nb 0\n")
        self.assertEqual(self.told(0, "state a { x 1: a; }"), "a 0\n")

    def test_goals_alone(self):
        self.assertEqual(self.told(3, "state a { x 1: b; } state b {}"), "a 1\nb 1\n")
        self.assertEqual(self.told(1, "state a {}"), "a 1\n")

    def test_a_goal_stays_1_wherever_its_choices_lead(self):
        self.assertEqual(self.told(1, "state a { x 1: b; } state b {}"), "a 1\nb 0\n")
        self.assertEqual(self.told(1, "state a { x 1: b; } state b { y 1: a, c; } state c {}"), "a 1\nb 1/2\nc 0\n")

    def test_bit_i_is_the_ith_state(self):
        words = "".join("state s" + str(k) + " {}" for k in range(16))
        for k in range(16):
            lines = ["s" + str(j) + (" 1\n" if k == j else " 0\n") for j in range(16)]
            self.assertEqual(self.told(1 << k, words), "".join(lines))

    def test_a_state_without_choices_stays(self):
        self.assertEqual(self.told(2, "state a {} state b {}"), "a 0\nb 1\n")
        self.assertEqual(self.told(1, "state a {} state b {}"), "a 1\nb 0\n")

    def test_going_round_for_ever_is_no_goal(self):
        self.assertEqual(self.told(4, "state a { x 1: b; } state b { y 1: a; } state c {}"), "a 0\nb 0\nc 1\n")
