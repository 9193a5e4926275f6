"""The calls that change the states that the plant may be in."""

from signplant.pairs import DIRECTIONS
from signplant.plant import has_place, has_quantity, too_many_fit
from signplant.refusals import CANNOT_BE, NO_SUCH, NOT_RIGHT, TOO_MANY
from signplant.rules import direction_of, place_of
from signplant.states import follows_some, is_state


def take_current(plant, states):
    if len(states) == 0:
        return [CANNOT_BE]
    plant.current = states
    return [len(states)]


def all_states(plant):
    return take_current(plant, list(plant.fitting))


def from_state(plant, numbers):
    if not is_state(plant.marks, numbers):
        return [NOT_RIGHT]
    return take_current(plant, [state for state in plant.fitting if state == numbers])


def seen(plant, quantity, place):
    if not has_quantity(plant, quantity):
        return [NO_SUCH]
    if not has_place(plant, quantity, place):
        return [NOT_RIGHT]
    return take_current(plant, [state for state in plant.current if place_of(state, quantity) == place])


def goes(plant, quantity, direction):
    if not has_quantity(plant, quantity):
        return [NO_SUCH]
    if direction >= DIRECTIONS:
        return [NOT_RIGHT]
    return take_current(plant, [state for state in plant.current if direction_of(state, quantity) == direction])


def tick(plant):
    if too_many_fit(plant):
        return [TOO_MANY]
    later = [state for state in plant.fitting if follows_some(plant.marks, plant.current, state)]
    return take_current(plant, later)
