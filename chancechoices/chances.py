"""The calls of choices and chances, over a text given as a list of bytes."""
from chancechoices.texts import BLANK, LINE_END, MINUS, SLASH, ZERO, Choice, NoSuchText, read_states

LONGEST_TEXT = 65536
GREATEST_ROOM = 65536
GREATEST_GOALS = 65535
MOST_STEPS = 64
LEAST_Q = 2
GREATEST_Q = 1000

OUT_OF_RANGE = -1
NO_SUCH_TEXT = -2
NO_SUCH_GOAL = -3
GAIN_TOO_LOW = -4
NO_ROOM = -7

# The bytes of "never".
NEVER_WORD = (110, 101, 118, 101, 114)


class OutOfRange(Exception):
    pass


class NoSuchGoal(Exception):
    pass


class GainTooLow(Exception):
    pass


class NoRoom(Exception):
    pass


def demand_range(number, least, greatest):
    if not least <= number <= greatest:
        raise OutOfRange()


def read_given(text, room):
    demand_range(len(text), 0, LONGEST_TEXT)
    demand_range(room, 0, GREATEST_ROOM)
    return read_states(text)


def read_given_goals(text, room, goals):
    demand_range(goals, 0, GREATEST_GOALS)
    states = read_given(text, room)
    if goals >> len(states) != 0:
        raise NoSuchGoal()
    return states


def answer(work):
    try:
        return work()
    except OutOfRange:
        return [OUT_OF_RANGE]
    except NoSuchText:
        return [NO_SUCH_TEXT]
    except NoSuchGoal:
        return [NO_SUCH_GOAL]
    except GainTooLow:
        return [GAIN_TOO_LOW]
    except NoRoom:
        return [NO_ROOM]


def common_divisor(number, other):
    while other != 0:
        rest = number % other
        number = other
        other = rest
    return number


# Not by str: Python may refuse to write a number of very many digits.
def digits_of(number):
    digits = [ZERO + number % 10]
    while number >= 10:
        number //= 10
        digits.append(ZERO + number % 10)
    return list(reversed(digits))


def fraction_told(top, bottom):
    divisor = common_divisor(top, bottom)
    told = digits_of(abs(top) // divisor)
    if bottom != divisor:
        told = told + [SLASH] + digits_of(bottom // divisor)
    return [MINUS] + told if top < 0 else told


def tell(states, words, room):
    told = []
    for state, word in zip(states, words):
        told.extend(list(state.name) + [BLANK] + word + [LINE_END])
    if room < len(told):
        raise NoRoom()
    return [len(told)] + told


# A number for each state: its own top over the bottom, which is above 0 and the same for all.
class Values:
    def __init__(self, tops, bottom):
        self.tops = tops
        self.bottom = bottom

    def negative(self):
        return Values([-top for top in self.tops], self.bottom)

    def told(self):
        return [fraction_told(top, self.bottom) for top in self.tops]


# Takes the pivot's unknown out of another row. The pivot before this one divides what comes of it without rest.
def cleared(row, pivot_row, turn, pivot_before):
    pivot = pivot_row[turn]
    factor = row[turn]
    return [(pivot * number - factor * other) // pivot_before for number, other in zip(row, pivot_row)]


# Solves equations: a row has a factor for each unknown, then what these come to. No two rows need to change places:
# where every number is a mean of others, and all of them lead to an end, each pivot is above 0.
def solve(rows):
    pivot = 1
    for turn in range(len(rows)):
        pivot_row = rows[turn]
        rows = [row if place == turn else cleared(row, pivot_row, turn, pivot) for place, row in enumerate(rows)]
        pivot = pivot_row[turn]
    return Values([row[-1] for row in rows], pivot)


# Seeks the greatest number for each state: its end where it has no options, else the gain of one of them and what is
# to be expected after it. A plan says for each state which of its options is taken.
class Quest:
    def __init__(self, options, ends):
        self.options = options
        self.ends = ends

    # What the state's number comes to by the plan, multiplied so that all is whole.
    def equation(self, plan, place):
        row = [0] * (len(plan) + 1)
        if len(self.options[place]) == 0:
            row[place] = 1
            row[-1] = self.ends[place]
            return row
        choice = self.options[place][plan[place]]
        row[place] = choice.total
        for way in choice.ways:
            row[way[0]] -= way[1]
        row[-1] = choice.gain * choice.total
        return row

    # What the choice comes to if the values are those ahead; the bottom is theirs times the choice's total.
    def top_by(self, choice, values):
        ahead = sum([way[1] * values.tops[way[0]] for way in choice.ways])
        return choice.gain * choice.total * values.bottom + ahead

    def is_better(self, choice, other, values):
        return self.top_by(choice, values) * other.total > self.top_by(other, values) * choice.total

    # Leaves an option for a better one alone: then a plan that leads to an end for sure is followed by such a plan.
    def improved(self, plan, values):
        better = list(plan)
        for place, choices in enumerate(self.options):
            for number, choice in enumerate(choices):
                if self.is_better(choice, choices[better[place]], values):
                    better[place] = number
        return better

    # The plan that is begun with must lead to an end for sure.
    def greatest(self, plan):
        while True:
            values = solve([self.equation(plan, place) for place in range(len(plan))])
            better = self.improved(plan, values)
            if better == plan:
                return values
            plan = better

    # The greatest numbers one step ahead of the values; each state must have an option.
    def step_ahead(self, values):
        plan = self.improved([0 for choices in self.options], values)
        chosen = [choices[number] for number, choices in zip(plan, self.options)]
        scale = 1
        for choice in chosen:
            scale *= choice.total
        tops = [self.top_by(choice, values) * (scale // choice.total) for choice in chosen]
        return Values(tops, values.bottom * scale)

    # The first choice by which the state's value comes about, behind a blank; nothing where there are no options.
    def choice_told(self, place, values):
        for choice in self.options[place]:
            if self.top_by(choice, values) == values.tops[place] * choice.total:
                return [BLANK] + list(choice.name)
        return []


def goal_marks(goals, states):
    return [goals >> place & 1 for place in range(len(states))]


def gains_taken(choices, times):
    return [Choice(choice.name, choice.gain * times, choice.ways, choice.total) for choice in choices]


# Whoever has come to a goal chooses no more. Each gain counts so many times.
def options_till(marks, states, times):
    return [[] if mark else gains_taken(state.choices, times) for mark, state in zip(marks, states)]


def leads_into(choice, marks):
    return any([marks[way[0]] for way in choice.ways])


def choices_staying_in(marks, choices):
    return [choice for choice in choices if all([marks[way[0]] for way in choice.ways])]


# A plan by which one may come to a goal from wherever that can be; -1 at the goals and where it can't.
def plan_toward(marks, options):
    reached = list(marks)
    plan = [-1 for mark in marks]
    # Each turn reaches one state more, or there is none left to reach.
    for turn in range(len(marks)):
        for place, choices in enumerate(options):
            for number, choice in enumerate(choices):
                if not reached[place] and leads_into(choice, reached):
                    reached[place] = 1
                    plan[place] = number
    return plan


# Marks where one comes to an end, a state without options, whatever is chosen: if each option leads there by some
# chance, one can't keep away for ever.
def marks_ending(options):
    ending = [0 for choices in options]
    for turn in range(len(options)):
        for place, choices in enumerate(options):
            if all([leads_into(choice, ending) for choice in choices]):
                ending[place] = 1
    return ending


# The choices that keep a goal sure: those are dropped that may lead to where no goal can be come to any more.
def options_sure(marks, options):
    # Each turn drops what leads to one state more, or there is nothing left to drop.
    for turn in range(len(marks)):
        plan = plan_toward(marks, options)
        sure = [mark == 1 or number >= 0 for mark, number in zip(marks, plan)]
        options = [choices_staying_in(sure, choices) for choices in options]
    return options


def options_where(marks, options):
    return [choices if mark else [] for mark, choices in zip(marks, options)]


# Where no goal can be come to the chance is 0, and the options are left out: among them a plan may lead to no end.
def tell_best(goals, room, text):
    states = read_given_goals(text, room, goals)
    marks = goal_marks(goals, states)
    options = options_till(marks, states, 0)
    plan = plan_toward(marks, options)
    quest = Quest(options_where([number >= 0 for number in plan], options), marks)
    return tell(states, quest.greatest(plan).told(), room)


# Where one can go on for ever without a goal the chance is 0, and the options are left out: then every plan leads to
# an end. With -1 for a goal, the least chance is the greatest number's negative.
def tell_worst(goals, room, text):
    states = read_given_goals(text, room, goals)
    marks = goal_marks(goals, states)
    options = options_till(marks, states, 0)
    quest = Quest(options_where(marks_ending(options), options), [-mark for mark in marks])
    values = quest.greatest([0 for state in states])
    return tell(states, values.negative().told(), room)


def staying(place):
    return Choice((), 0, [(place, 1)], 1)


# Goes from no step on to so many: a choice may be another one at each step.
def tell_within(goals, steps, room, text):
    demand_range(steps, 0, MOST_STEPS)
    states = read_given_goals(text, room, goals)
    marks = goal_marks(goals, states)
    options = options_till(marks, states, 0)
    quest = Quest([choices if len(choices) > 0 else [staying(place)] for place, choices in enumerate(options)], marks)
    values = Values(marks, 1)
    for step in range(steps):
        values = quest.step_ahead(values)
    return tell(states, values.told(), room)


def demand_costs(states):
    for state in states:
        if any([choice.gain < 1 for choice in state.choices]):
            raise GainTooLow()


# A plan that may come to no goal costs more than any other: so the least cost is the greatest number's negative.
def tell_cost(goals, room, text):
    states = read_given_goals(text, room, goals)
    demand_costs(states)
    marks = goal_marks(goals, states)
    options = options_sure(marks, options_till(marks, states, -1))
    quest = Quest(options, [0 for state in states])
    values = quest.greatest(plan_toward(marks, options))
    words = []
    for place, number in enumerate(values.negative().told()):
        if marks[place] == 1 or len(options[place]) > 0:
            words.append(number + quest.choice_told(place, values))
        else:
            words.append(list(NEVER_WORD))
    return tell(states, words, room)


# What comes later counts for p / q: as if one went on with that chance alone, and else there were nothing more.
def with_later_less(choice, p, q):
    ways = [(way[0], way[1] * p) for way in choice.ways]
    return Choice(choice.name, choice.gain, ways, choice.total * q)


def options_with_later_less(choices, p, q):
    return [with_later_less(choice, p, q) for choice in choices]


def tell_worth(p, q, room, text):
    demand_range(q, LEAST_Q, GREATEST_Q)
    demand_range(p, 0, q - 1)
    states = read_given(text, room)
    quest = Quest([options_with_later_less(state.choices, p, q) for state in states], [0 for state in states])
    values = quest.greatest([0 for state in states])
    words = [number + quest.choice_told(place, values) for place, number in enumerate(values.told())]
    return tell(states, words, room)


def tell_check(text):
    demand_range(len(text), 0, LONGEST_TEXT)
    return [len(read_states(text))]


def check(text):
    return answer(lambda: tell_check(text))


def best(goals, room, text):
    return answer(lambda: tell_best(goals, room, text))


def worst(goals, room, text):
    return answer(lambda: tell_worst(goals, room, text))


def within(goals, steps, room, text):
    return answer(lambda: tell_within(goals, steps, room, text))


def cost(goals, room, text):
    return answer(lambda: tell_cost(goals, room, text))


def worth(p, q, room, text):
    return answer(lambda: tell_worth(p, q, room, text))
