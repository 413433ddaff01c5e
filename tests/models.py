"""Texts told as Python values, and slow second ways to what the calls answer: by trying every plan, and by asking
whether given numbers are the only ones that fit."""
import itertools
import random
from fractions import Fraction


class Choice:
    def __init__(self, name, gain, ways):
        self.name = name
        self.gain = gain
        self.ways = ways
        self.total = sum(ways.values())

    def mean(self, numbers):
        return sum(Fraction(weight, self.total) * numbers[to] for to, weight in self.ways.items())


class Model:
    """For each state its name and its choices; ways lead to the places of states."""

    def __init__(self, names, choices):
        self.names = names
        self.choices = choices
        self.size = len(names)

    def words(self):
        return "\n".join(
            "state " + name + " {" + "".join(
                " " + choice.name + " " + str(choice.gain) + ": " + ", ".join(
                    self.names[to] + "/" + str(weight) for to, weight in choice.ways.items()) + ";"
                for choice in choices) + " }"
            for name, choices in zip(self.names, self.choices))

    def goal_places(self, goals):
        return {place for place in range(self.size) if goals >> place & 1}

    def plans(self):
        """Every way of choosing that always chooses alike; a state without choices has None."""
        return itertools.product(*[choices or [None] for choices in self.choices])


def random_model(chance, states, choices, ways, weight, gains=(-1000, 1000), fewest_states=1):
    size = chance.randint(fewest_states, states)
    names = ["s" + str(place) for place in range(size)]
    told = []
    for place in range(size):
        told.append([
            Choice("c" + str(number), chance.randint(*gains), {
                to: chance.randint(1, weight) for to in chance.sample(range(size), chance.randint(1, min(ways, size)))})
            for number in range(chance.randint(0, choices))])
    return Model(names, told)


def full_model(seed, gains=(-1000, 1000), least_weight=900, ends=(), ways=16):
    """As much as a text may hold: 16 states, 8 choices, 16 ways, the longest names."""
    chance = random.Random(seed)
    names = ["state_number_" + str(100 + place) for place in range(16)]
    told = []
    for place in range(16):
        told.append([] if place in ends else [
            Choice("choice_number_" + str(10 + number), chance.randint(*gains), {
                to: chance.randint(least_weight, 1000) for to in chance.sample(range(16), ways)})
            for number in range(8)])
    return Model(names, told)


def solved(rows):
    """Gauss, over fractions; rows of factors and what they come to."""
    rows = [[Fraction(number) for number in row] for row in rows]
    for k in range(len(rows)):
        at = next(i for i in range(k, len(rows)) if rows[i][k] != 0)
        rows[k], rows[at] = rows[at], rows[k]
        rows[k] = [number / rows[k][k] for number in rows[k]]
        for i in range(len(rows)):
            if i != k and rows[i][k] != 0:
                rows[i] = [a - rows[i][k] * b for a, b in zip(rows[i], rows[k])]
    return [row[-1] for row in rows]


def can_come(model, plan, places):
    """From where one comes to one of the places with some chance if the plan is kept to."""
    come = set(places)
    while True:
        more = {s for s in range(model.size) if plan[s] and s not in come and come & set(plan[s].ways)}
        if not more:
            return come
        come |= more


def solve_plan(model, plan, fixed, factor=Fraction(1), gains=True):
    rows = []
    for s in range(model.size):
        row = [Fraction(0)] * (model.size + 1)
        row[s] = Fraction(1)
        if s in fixed:
            row[-1] = Fraction(fixed[s])
        else:
            for to, weight in plan[s].ways.items():
                row[to] -= factor * Fraction(weight, plan[s].total)
            row[-1] = Fraction(plan[s].gain if gains else 0)
        rows.append(row)
    return solved(rows)


def chances_by_plan(model, plan, goals):
    goal_places = model.goal_places(goals)
    come = can_come(model, plan, goal_places)
    fixed = {s: 1 if s in goal_places else 0 for s in range(model.size) if s in goal_places or s not in come}
    return solve_plan(model, plan, fixed, gains=False)


def each_by_plans(model, numbers_of, pick):
    """Of all plans the numbers, state by state; pick tells which counts."""
    found = [numbers_of(plan) for plan in model.plans()]
    return [pick([numbers[s] for numbers in found]) for s in range(model.size)]


def best_by_plans(model, goals):
    return each_by_plans(model, lambda plan: chances_by_plan(model, plan, goals), max)


def worst_by_plans(model, goals):
    return each_by_plans(model, lambda plan: chances_by_plan(model, plan, goals), min)


def can_come_somehow(model, places, allowed=lambda s, choice: True):
    come = set(places)
    while True:
        more = {s for s in range(model.size) if s not in come and any(
            allowed(s, choice) and come & set(choice.ways) for choice in model.choices[s])}
        if not more:
            return come
        come |= more


def is_best(model, goals, numbers):
    """No choice brings more than the numbers say, and by choices that bring as much one comes to a goal from where
    they are above 0: so they are the greatest, and can be had."""
    goal_places = model.goal_places(goals)
    for s in range(model.size):
        if s in goal_places:
            if numbers[s] != 1:
                return False
        elif numbers[s] != max([choice.mean(numbers) for choice in model.choices[s]], default=0):
            return False
    come = can_come_somehow(model, goal_places, lambda s, choice: choice.mean(numbers) == numbers[s])
    return all(numbers[s] == 0 or s in come for s in range(model.size))


def can_keep_away(model, places):
    """Where one can choose so that one never comes to one of the places."""
    away = set(range(model.size)) - set(places)
    while True:
        lost = {s for s in away if model.choices[s] and all(set(choice.ways) - away for choice in model.choices[s])}
        if not lost:
            return away
        away -= lost


def is_worst(model, goals, numbers):
    """No choice brings less than the numbers say, and they are 0 just where one can keep away: elsewhere every plan
    comes to an end, so that only one set of numbers fits."""
    goal_places = model.goal_places(goals)
    away = can_keep_away(model, goal_places)
    for s in range(model.size):
        if s in goal_places:
            fits = numbers[s] == 1
        elif s in away:
            fits = numbers[s] == 0
        else:
            fits = numbers[s] == min(choice.mean(numbers) for choice in model.choices[s])
        if not fits:
            return False
    return True


def within_by_steps(model, goals, steps):
    goal_places = model.goal_places(goals)
    numbers = [Fraction(int(s in goal_places)) for s in range(model.size)]
    for step in range(steps):
        numbers = [Fraction(1) if s in goal_places else max(
            [choice.mean(numbers) for choice in model.choices[s]], default=Fraction(0)) for s in range(model.size)]
    return numbers


def within_by_plans(model, goals, steps):
    """Tries every row of plans, one for each step."""
    goal_places = model.goal_places(goals)
    greatest = [Fraction(0)] * model.size
    for row in itertools.product(list(model.plans()), repeat=steps):
        numbers = [Fraction(int(s in goal_places)) for s in range(model.size)]
        for plan in row:
            numbers = [numbers[s] if s in goal_places or plan[s] is None else plan[s].mean(numbers)
                       for s in range(model.size)]
        greatest = [max(pair) for pair in zip(greatest, numbers)]
    return greatest


def first_that_fits(model, numbers, of_choice):
    """For each state the name of its first choice by which its number comes about, or None."""
    return [next((choice.name for choice in model.choices[s] if of_choice(choice) == numbers[s]), None)
            for s in range(model.size)]


def costs_by_plan(model, plan, goals):
    """What is to be expected till a goal by the plan; None where no goal is sure."""
    goal_places = model.goal_places(goals)
    come = can_come(model, plan, goal_places)
    stuck = set(range(model.size)) - come
    until_goal = [None if s in goal_places else plan[s] for s in range(model.size)]
    unsure = can_come(model, until_goal, stuck)
    fixed = {s: 0 for s in goal_places | unsure}
    numbers = solve_plan(model, plan, fixed)
    return [None if s in unsure else numbers[s] for s in range(model.size)]


def costs_by_plans(model, goals):
    return each_by_plans(model, lambda plan: costs_by_plan(model, plan, goals),
                         lambda numbers: min([number for number in numbers if number is not None], default=None))


def cost_of_choice(choice, numbers):
    """None where a goal is no more sure."""
    if any(numbers[to] is None for to in choice.ways):
        return None
    return choice.gain + choice.mean(numbers)


def can_be_sure(model, places):
    sure = set(range(model.size))
    while True:
        come = can_come_somehow(model, places, lambda s, choice: s in sure and set(choice.ways) <= sure)
        if come >= sure:
            return sure
        sure &= come


def is_cost(model, goals, numbers):
    """There are numbers just where a goal can be made sure, and no choice that keeps it sure costs less than they say:
    as every choice costs something, only one set of numbers fits."""
    goal_places = model.goal_places(goals)
    if {s for s in range(model.size) if numbers[s] is not None} != can_be_sure(model, goal_places):
        return False
    for s in range(model.size):
        costs = [cost_of_choice(choice, numbers) for choice in model.choices[s]]
        if s in goal_places:
            fits = numbers[s] == 0
        else:
            fits = numbers[s] == min([cost for cost in costs if cost is not None], default=None)
        if not fits:
            return False
    return True


def cost_lines(model, goals, numbers):
    goal_places = model.goal_places(goals)
    firsts = first_that_fits(model, numbers, lambda choice: cost_of_choice(choice, numbers))
    lines = []
    for s in range(model.size):
        if s in goal_places:
            lines.append(model.names[s] + " 0\n")
        elif numbers[s] is None:
            lines.append(model.names[s] + " never\n")
        else:
            lines.append(model.names[s] + " " + str(numbers[s]) + " " + firsts[s] + "\n")
    return "".join(lines)


def worths_by_plans(model, factor):
    def by_plan(plan):
        return solve_plan(model, plan, {s: 0 for s in range(model.size) if plan[s] is None}, factor)
    return each_by_plans(model, by_plan, max)


def worth_of_choice(choice, numbers, factor):
    return choice.gain + factor * choice.mean(numbers)


def is_worth(model, factor, numbers):
    """No choice brings more than the numbers say: as what is later counts for less, only one set of numbers fits."""
    return all(numbers[s] == max([worth_of_choice(choice, numbers, factor) for choice in model.choices[s]], default=0)
               for s in range(model.size))


def worth_lines(model, factor, numbers):
    firsts = first_that_fits(model, numbers, lambda choice: worth_of_choice(choice, numbers, factor))
    return "".join(model.names[s] + " " + str(numbers[s]) + (" " + firsts[s] if model.choices[s] else "") + "\n"
                   for s in range(model.size))
