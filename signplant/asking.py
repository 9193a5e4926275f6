"""The calls on all ways from now: their refusals, and which is answered by what."""

from signplant.coming import ahead, avoid, both, ever, later, may, must, only, path, reach, rest, round_way, stuck
from signplant.plant import has_place, has_quantity, too_many_fit
from signplant.refusals import NO_SUCH, NOT_RIGHT, TOO_MANY
from signplant.ways import ways_from_now

MOST_MOMENTS = 40

# What the numbers of a call are, each by a sign: i a quantity, p a place of the one ahead of it, k moments.
SIGNS = {
    "ahead": "k",
    "later": "ik",
    "ever": "i",
    "reach": "",
    "may": "ip",
    "path": "ip",
    "must": "ip",
    "avoid": "ip",
    "both": "ipip",
    "only": "ipip",
    "rest": "",
    "stuck": "",
    "round_way": "",
}


def numbers_by_sign(name, given, wanted):
    return [number for sign, number in zip(SIGNS[name], given) if sign == wanted]


def find_refusal(plant, name, given):
    quantities = numbers_by_sign(name, given, "i")
    for quantity in quantities:
        if not has_quantity(plant, quantity):
            return NO_SUCH
    if too_many_fit(plant):
        return TOO_MANY
    for quantity, place in zip(quantities, numbers_by_sign(name, given, "p")):
        if not has_place(plant, quantity, place):
            return NOT_RIGHT
    for moments in numbers_by_sign(name, given, "k"):
        if moments > MOST_MOMENTS:
            return NOT_RIGHT
    return None


def answer_of_places(ways, name, given):
    if name == "may":
        return may(ways, given[0], given[1])
    if name == "path":
        return path(ways, given[0], given[1])
    if name == "must":
        return must(ways, given[0], given[1])
    if name == "avoid":
        return avoid(ways, given[0], given[1])
    if name == "both":
        return both(ways, given[0], given[1], given[2], given[3])
    return only(ways, given[0], given[1], given[2], given[3])


def answer_of_ways(ways, name, given):
    if name == "ahead":
        return ahead(ways, given[0])
    if name == "later":
        return later(ways, given[0], given[1])
    if name == "ever":
        return ever(ways, given[0])
    if name == "reach":
        return reach(ways)
    if name == "rest":
        return rest(ways)
    if name == "stuck":
        return stuck(ways)
    if name == "round_way":
        return round_way(ways)
    return answer_of_places(ways, name, given)


def ask(plant, name, given):
    refusal = find_refusal(plant, name, given)
    if refusal is not None:
        return [refusal]
    return answer_of_ways(ways_from_now(plant), name, given)
