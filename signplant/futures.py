"""The answers to a list of calls on one new plant."""

from signplant.asking import ask
from signplant.building import add_quantity, add_rule, begin, drop_rule
from signplant.narrowing import all_states, from_state, goes, seen, tick
from signplant.plant import Plant
from signplant.reading import split_calls
from signplant.refusals import NOT_BEGUN
from signplant.rules import KINDS
from signplant.telling import count_current, tell_one, tell_places, tell_state


def answer_call(plant, name, given):
    if name == "begin":
        return begin(plant)
    if not plant.begun:
        return [NOT_BEGUN]
    if name == "quantity":
        return add_quantity(plant, given[0])
    if name in KINDS:
        return add_rule(plant, tuple([name] + given))
    if name == "drop":
        return drop_rule(plant, given[0])
    if name == "all_states":
        return all_states(plant)
    if name == "from_state":
        return from_state(plant, given)
    if name == "seen":
        return seen(plant, given[0], given[1])
    if name == "goes":
        return goes(plant, given[0], given[1])
    if name == "tick":
        return tick(plant)
    if name == "now":
        return count_current(plant)
    if name == "one":
        return tell_one(plant, given[0])
    if name == "places":
        return tell_places(plant, given[0])
    if name == "state":
        return tell_state(plant)
    return ask(plant, name, given)


def answers(calls):
    plant = Plant()
    told = []
    for name, given in split_calls(calls):
        answer = answer_call(plant, name, given)
        told.append(len(answer))
        told.extend(answer)
    return told
