"""The calls that give and take quantities and rules."""

from signplant.pairs import count_places
from signplant.plant import has_mark, has_quantity, settle
from signplant.refusals import CANNOT_BE, NO_SUCH, NOT_RIGHT, TOO_MANY
from signplant.rules import rule_marks, rule_quantities
from signplant.states import fitting_states

MOST_MARKS = 3
MOST_QUANTITIES = 4
MOST_PLACES = 30
MOST_RULES = 8


def begin(plant):
    plant.begun = True
    plant.marks = []
    plant.rules = []
    settle(plant, fitting_states([], []))
    return [0]


def multiply_places(marks):
    product = 1
    for count in marks:
        product = product * count_places(count)
    return product


def add_quantity(plant, count):
    if count > MOST_MARKS:
        return [NOT_RIGHT]
    marks = plant.marks + [count]
    if len(marks) > MOST_QUANTITIES or multiply_places(marks) > MOST_PLACES:
        return [TOO_MANY]
    plant.marks = marks
    settle(plant, fitting_states(marks, plant.rules))
    return [len(marks) - 1]


def names_missing_quantity(plant, rule):
    for quantity in rule_quantities(rule):
        if not has_quantity(plant, quantity):
            return True
    return False


def names_missing_mark(plant, rule):
    for quantity, mark in rule_marks(rule):
        if not has_mark(plant, quantity, mark):
            return True
    return False


def names_one_twice(rule):
    quantities = rule_quantities(rule)
    return len(set(quantities)) < len(quantities)


def add_rule(plant, rule):
    if names_missing_quantity(plant, rule):
        return [NO_SUCH]
    if names_one_twice(rule) or names_missing_mark(plant, rule):
        return [NOT_RIGHT]
    rules = plant.rules + [rule]
    if len(rules) > MOST_RULES:
        return [TOO_MANY]
    fitting = fitting_states(plant.marks, rules)
    if len(fitting) == 0:
        return [CANNOT_BE]
    plant.rules = rules
    settle(plant, fitting)
    return [len(rules) - 1]


def drop_rule(plant, number):
    if number >= len(plant.rules):
        return [NO_SUCH]
    plant.rules = plant.rules[:number] + plant.rules[number + 1:]
    settle(plant, fitting_states(plant.marks, plant.rules))
    return [len(plant.rules)]
