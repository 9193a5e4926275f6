"""What is known of a plant between one call and the next."""


class Plant:
    def __init__(self):
        self.begun = False
        self.marks = []
        self.rules = []
        self.fitting = []
        self.current = []


def has_quantity(plant, quantity):
    return quantity < len(plant.marks)


def has_mark(plant, quantity, mark):
    return mark < plant.marks[quantity]


def settle(plant, fitting):
    plant.fitting = fitting
    plant.current = list(fitting)
