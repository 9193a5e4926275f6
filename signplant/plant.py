"""What is known of a plant between one call and the next."""

from signplant.pairs import count_places

MOST_FITTING = 120


class Plant:
    def __init__(self):
        self.begun = False
        self.marks = []
        self.rules = []
        self.fitting = []
        self.current = []


def has_quantity(plant, quantity):
    return quantity < len(plant.marks)


def has_mark(plant, quantity, mark):
    return mark < plant.marks[quantity]


def has_place(plant, quantity, place):
    return place < count_places(plant.marks[quantity])


def too_many_fit(plant):
    return len(plant.fitting) > MOST_FITTING


def settle(plant, fitting):
    plant.fitting = fitting
    plant.current = list(fitting)
