"""The calls that tell of the plant and change nothing."""

from signplant.refusals import CANNOT_BE


def count_current(plant):
    return [len(plant.current)]


def tell_one(plant, number):
    if number >= len(plant.current):
        return [CANNOT_BE]
    return [len(plant.marks)] + plant.current[number]
