"""Ways through the states that fit.

A state is told by its number among those that fit, so that numbers stand in the order of the states.
"""

from signplant.rules import place_of
from signplant.states import list_followers


class Ways:
    def __init__(self, states, followers, starts):
        self.states = states
        # By a state's number: the numbers, rising, of the states that may come next on a way.
        self.followers = followers
        # The numbers, rising, of the states that a way may begin with.
        self.starts = starts


def ways_from_now(plant):
    states = plant.fitting
    starts = [number for number in range(len(states)) if states[number] in plant.current]
    return Ways(states, list_followers(plant.marks, states), starts)


def numbers_at(ways, quantity, place):
    return [number for number in range(len(ways.states)) if place_of(ways.states[number], quantity) == place]


def ways_without(ways, barred):
    followers = []
    for later in ways.followers:
        followers.append([number for number in later if number not in barred])
    return Ways(ways.states, followers, [number for number in ways.starts if number not in barred])


def all_after(ways, numbers):
    found = {}
    for number in numbers:
        for later in ways.followers[number]:
            found[later] = True
    return list(found)


def after_moments(ways, moments):
    numbers = ways.starts
    for moment in range(moments):
        numbers = all_after(ways, numbers)
    return numbers


def befores(ways):
    # Each state that may come, by the one before it on its shortest way (None: it may come at once). They are found
    # in the order of these ways: fewer moments first, of as many the way with the lesser state where two first differ.
    before = {}
    for number in ways.starts:
        before[number] = None
    found = list(ways.starts)
    at = 0
    while at < len(found):
        number = found[at]
        for later in ways.followers[number]:
            if later not in before:
                before[later] = number
                found.append(later)
        at = at + 1
    return before


def way_to(before, number):
    way = []
    while number is not None:
        way.append(number)
        number = before[number]
    way.reverse()
    return way


def shortest_way(ways, goals):
    before = befores(ways)
    for number in before:
        if number in goals:
            return way_to(before, number)
    return None


def moments_beyond(ways):
    # The least number of moments that no way takes. A way of as many moments as there are states has one of them
    # twice: it may go round for ever, and there are ways of any number (None).
    numbers = ways.starts
    moments = 0
    while len(numbers) > 0:
        if moments == len(ways.states):
            return None
        numbers = all_after(ways, numbers)
        moments = moments + 1
    return moments


def shortest_round(ways):
    fewest = None
    for number in befores(ways):
        others = [later for later in ways.followers[number] if later != number]
        back = shortest_way(Ways(ways.states, ways.followers, others), [number])
        # With the moment ahead of it, the way back takes as many moments as it has states.
        if back is not None and (fewest is None or len(back) < fewest):
            fewest = len(back)
    return fewest
