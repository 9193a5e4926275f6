"""What all tests share: lines of calls by their names, and the answers call by call."""

from signplant.futures import answers

NUMBERS = {
    "begin": 0, "quantity": 1, "more": 2, "less": 3, "sum_of": 4, "rate": 5, "still": 6, "meet": 7,
    "drop": 8, "all_states": 9, "from_state": 10, "seen": 11, "goes": 12, "tick": 13, "now": 14,
    "one": 15, "places": 16, "ahead": 17, "later": 18, "ever": 19, "reach": 20, "may": 21, "path": 22,
    "must": 23, "avoid": 24, "both": 25, "only": 26, "rest": 27, "stuck": 28, "round_way": 29, "state": 30,
}
# How many whole numbers each call has, by its number; from_state has a row instead.
SIZES = [0, 1, 2, 2, 3, 3, 1, 4, 1, 0, None, 2, 2, 0, 0, 1, 1, 1, 2, 1, 0, 2, 2, 2, 2, 4, 4, 0, 0, 0, 0]
LARGEST = 4294967295


def call(text, row=None):
    """A call from a text such as "seen 0 2"; `row` is what from_state is given."""
    words = text.split()
    numbers = [NUMBERS[words[0]]] + [int(word) for word in words[1:]]
    if row is not None:
        numbers += [len(row)] + list(row)
    return numbers


def line(*calls):
    """The numbers of calls: texts, or lists of which each is the state that from_state is given."""
    numbers = []
    for each in calls:
        numbers += call(each) if isinstance(each, str) else call("from_state", each)
    return numbers


def split(told):
    """The answers call by call."""
    found = []
    at = 0
    while at < len(told):
        found.append(told[at + 1:at + 1 + told[at]])
        if len(found[-1]) != told[at]:
            raise ValueError("fewer numbers than the count before them tells")
        at += 1 + told[at]
    return found


def tell(*calls):
    """What each of the calls answers."""
    return split(answers(line(*calls)))


def last(*calls):
    """What the last one of the calls answers."""
    return tell(*calls)[-1]


def states_now(*calls):
    """All states of now behind the calls, looked at one by one, each with its count of quantities left off."""
    many = last(*calls, "now")[0]
    beyond = last(*calls, f"one {many}")
    if beyond != [-33]:
        raise ValueError(f"there is a state behind the last one: {beyond}")
    states = []
    for k in range(many):
        told = last(*calls, f"one {k}")
        if told[0] * 2 != len(told) - 1:
            raise ValueError(f"no state with its count ahead: {told}")
        states.append(told[1:])
    return states
