"""The kinds of rules, and whether one holds in a state.

A rule is a tuple: its kind, then its whole numbers as they are handed in.
"""

from signplant.pairs import FALLING, RISING, STEADY, mark_place

KINDS = ("more", "less", "sum_of", "rate", "still", "meet")


def rule_quantities(rule):
    if rule[0] in ("rate", "meet"):
        return [rule[1], rule[3]]
    return list(rule[1:])


def rule_marks(rule):
    if rule[0] == "rate":
        return [(rule[1], rule[2])]
    if rule[0] == "meet":
        return [(rule[1], rule[2]), (rule[3], rule[4])]
    return []


def place_of(state, quantity):
    return state[2 * quantity]


def direction_of(state, quantity):
    return state[2 * quantity + 1]


def side_of_mark(state, quantity, mark):
    # Below, at and above are told as falling, steady and rising: so a rate is its quantity's side.
    place = place_of(state, quantity)
    if place < mark_place(mark):
        return FALLING
    if place == mark_place(mark):
        return STEADY
    return RISING


def less_holds(one, other):
    if one == STEADY:
        return other == STEADY
    return other != STEADY and one != other


def sum_holds(one, other, total):
    if one == STEADY:
        return total == other
    if other == STEADY:
        return total == one
    if one == other:
        return total == one
    return True


def rule_holds(rule, state):
    kind = rule[0]
    if kind == "rate":
        return direction_of(state, rule[3]) == side_of_mark(state, rule[1], rule[2])
    if kind == "meet":
        return side_of_mark(state, rule[1], rule[2]) == side_of_mark(state, rule[3], rule[4])
    directions = [direction_of(state, quantity) for quantity in rule[1:]]
    if kind == "more":
        return directions[0] == directions[1]
    if kind == "less":
        return less_holds(directions[0], directions[1])
    if kind == "sum_of":
        return sum_holds(directions[0], directions[1], directions[2])
    return directions[0] == STEADY
