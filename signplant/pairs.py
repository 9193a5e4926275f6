"""The pairs of one quantity, a place and a direction each, and what follows them."""

FALLING = 0
STEADY = 1
RISING = 2
DIRECTIONS = 3


def count_places(marks):
    return 2 * marks + 1


def mark_place(mark):
    return 2 * mark + 1


def is_mark(place):
    return place % 2 == 1


def list_pairs(marks):
    pairs = []
    for place in range(count_places(marks)):
        for direction in range(DIRECTIONS):
            pairs.append([place, direction])
    return pairs


def later_places(marks, place, direction):
    if direction == STEADY:
        return [place]
    moved = place + 1 if direction == RISING else place - 1
    if is_mark(place):
        return [moved]
    if moved < 0 or moved >= count_places(marks):
        return [place]
    return [place, moved]


def pair_follows(marks, pair, later):
    if later[0] not in later_places(marks, pair[0], pair[1]):
        return False
    return abs(later[1] - pair[1]) <= 1
