"""The calls that tell of the plant and of now."""

from signplant.plant import has_quantity
from signplant.refusals import CANNOT_BE, NO_SUCH
from signplant.states import list_places


def count_current(plant):
    return [len(plant.current)]


def tell_one(plant, number):
    if number >= len(plant.current):
        return [CANNOT_BE]
    return [len(plant.marks)] + plant.current[number]


def tell_places(plant, quantity):
    if not has_quantity(plant, quantity):
        return [NO_SUCH]
    places = list_places(plant.current, quantity)
    return [len(places)] + places


def tell_state(plant):
    return [len(plant.marks), len(plant.rules), len(plant.fitting), len(plant.current)] + plant.marks
