"""The states of all quantities, which of them fit, and what follows them."""

from signplant.pairs import DIRECTIONS, count_places, list_pairs, pair_follows
from signplant.rules import place_of, rule_holds


def add_pairs(states, pairs):
    longer = []
    for state in states:
        for pair in pairs:
            longer.append(state + pair)
    return longer


def list_states(marks):
    states = [[]]
    for count in marks:
        states = add_pairs(states, list_pairs(count))
    return states


def fitting_states(marks, rules):
    states = list_states(marks)
    for rule in rules:
        states = [state for state in states if rule_holds(rule, state)]
    return states


def is_state(marks, numbers):
    if len(numbers) != 2 * len(marks):
        return False
    for i in range(len(marks)):
        if numbers[2 * i] >= count_places(marks[i]) or numbers[2 * i + 1] >= DIRECTIONS:
            return False
    return True


def state_follows(marks, state, later):
    for i in range(len(marks)):
        if not pair_follows(marks[i], state[2 * i:2 * i + 2], later[2 * i:2 * i + 2]):
            return False
    return True


def follows_some(marks, states, later):
    for state in states:
        if state_follows(marks, state, later):
            return True
    return False


def list_followers(marks, states):
    followers = []
    for state in states:
        followers.append([number for number in range(len(states)) if state_follows(marks, state, states[number])])
    return followers


def list_places(states, quantity):
    return sorted(set([place_of(state, quantity) for state in states]))
