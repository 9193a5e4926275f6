"""What each call on the ways from now answers, where what it is given is right."""

from signplant.pairs import STEADY
from signplant.refusals import CANNOT_BE
from signplant.rules import direction_of
from signplant.states import list_places
from signplant.ways import after_moments, befores, moments_beyond, numbers_at, shortest_round, shortest_way
from signplant.ways import ways_without


def ahead(ways, moments):
    return [len(after_moments(ways, moments))]


def places_among(ways, numbers, quantity):
    places = list_places([ways.states[number] for number in numbers], quantity)
    return [len(places)] + places


def later(ways, quantity, moments):
    return places_among(ways, after_moments(ways, moments), quantity)


def ever(ways, quantity):
    return places_among(ways, list(befores(ways)), quantity)


def reach(ways):
    return [len(befores(ways))]


def moments_to(ways, goals):
    way = shortest_way(ways, goals)
    if way is None:
        return [CANNOT_BE]
    return [len(way) - 1]


def may(ways, quantity, place):
    return moments_to(ways, numbers_at(ways, quantity, place))


def path(ways, quantity, place):
    way = shortest_way(ways, numbers_at(ways, quantity, place))
    if way is None:
        return [CANNOT_BE]
    told = [len(way) - 1]
    for number in way:
        told.extend(ways.states[number])
    return told


def ends(ways):
    return [number for number in range(len(ways.states)) if len(ways.followers[number]) == 0]


def must(ways, quantity, place):
    off = ways_without(ways, numbers_at(ways, quantity, place))
    moments = moments_beyond(off)
    if moments is None or shortest_way(off, ends(ways)) is not None:
        return [CANNOT_BE]
    return [moments]


def avoid(ways, quantity, place):
    off = ways_without(ways, numbers_at(ways, quantity, place))
    return [1 if moments_beyond(off) is None else 0]


def both(ways, quantity, place, other, where):
    there = numbers_at(ways, other, where)
    return moments_to(ways, [number for number in numbers_at(ways, quantity, place) if number in there])


def only(ways, quantity, place, other, where):
    return moments_to(ways_without(ways, numbers_at(ways, other, where)), numbers_at(ways, quantity, place))


def is_steady(state):
    for quantity in range(len(state) // 2):
        if direction_of(state, quantity) != STEADY:
            return False
    return True


def rest(ways):
    return moments_to(ways, [number for number in range(len(ways.states)) if is_steady(ways.states[number])])


def stuck(ways):
    return moments_to(ways, ends(ways))


def round_way(ways):
    moments = shortest_round(ways)
    if moments is None:
        return [CANNOT_BE]
    return [moments]
