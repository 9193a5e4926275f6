"""What holds of all lines: the words taken literally, refusals that change nothing, whole numbers that obey."""

import itertools
import random
import unittest

from signplant.futures import answers
from tests.lines import LARGEST, NUMBERS, SIZES, line, split, tell

BUILT = ["begin", "quantity", "more", "less", "sum_of", "rate", "still", "meet", "drop", "all_states", "from_state",
         "seen", "goes", "tick", "now", "one"]


def side(place, mark):
    """-1 below a mark, 0 at it, 1 above it."""
    return (place > 2 * mark + 1) - (place < 2 * mark + 1)


def sum_may_have(one, other):
    """The steps that a sum may have, of two steps of -1, 0 and 1."""
    return {one + other} if 0 in (one, other) else ({one} if one == other else {-1, 0, 1})


# By the name of a rule: whether it holds, of the places, the steps (-1, 0, 1) and its numbers.
HOLDS = {
    "more": lambda place, step, a, b: step[a] == step[b],
    "less": lambda place, step, a, b: step[a] == -step[b],
    "sum_of": lambda place, step, a, b, c: step[c] in sum_may_have(step[a], step[b]),
    "rate": lambda place, step, a, j, b: step[b] == side(place[a], j),
    "still": lambda place, step, a: step[a] == 0,
    "meet": lambda place, step, a, j, b, k: side(place[a], j) == side(place[b], k),
}


class Words:
    """The document's words taken literally, with no thought of speed."""

    def __init__(self):
        self.marks = None

    def fits(self, state, rules):
        place, step = state[0::2], [direction - 1 for direction in state[1::2]]
        return all(HOLDS[name](place, step, *given) for name, given in rules)

    def fitting(self, rules):
        ranges = [part for marks in self.marks for part in (range(2 * marks + 1), range(3))]
        return [list(state) for state in itertools.product(*ranges) if self.fits(state, rules)]

    def renew(self):
        self.current = self.fitting(self.rules)

    def refused_rule(self, name, given):
        quantities = given if name not in ("rate", "meet") else [given[0], given[2]]
        if any(quantity >= len(self.marks) for quantity in quantities):
            return -2
        if any(one == other for one, other in itertools.combinations(quantities, 2)):
            return -22
        if name in ("rate", "meet") and given[1] >= self.marks[given[0]]:
            return -22
        if name == "meet" and given[3] >= self.marks[given[2]]:
            return -22
        if len(self.rules) == 8:
            return -28
        return None if self.fitting(self.rules + [(name, given)]) else -33

    def follows(self, state, later):
        for i, marks in enumerate(self.marks):
            place, direction, behind, turned = state[2 * i], state[2 * i + 1], later[2 * i], later[2 * i + 1]
            step = direction - 1
            may = {place + step} if place % 2 or step == 0 else {place, place + step} & set(range(2 * marks + 1))
            if behind not in may or {direction, turned} == {0, 2}:
                return False
        return True

    def narrowed(self, states):
        if not states:
            return [-33]
        self.current = states
        return [len(states)]

    def call(self, name, given):
        if name == "begin":
            self.marks, self.rules, self.current = [], [], [[]]
            return [0]
        if self.marks is None:
            return [-11]
        return getattr(self, "call_" + name, lambda *given: self.call_rule(name, given))(*given)

    def call_rule(self, name, given):
        refused = self.refused_rule(name, given)
        if refused is not None:
            return [refused]
        self.rules.append((name, given))
        self.renew()
        return [len(self.rules) - 1]

    def call_quantity(self, marks):
        if marks > 3:
            return [-22]
        product = 2 * marks + 1
        for other in self.marks:
            product *= 2 * other + 1
        if len(self.marks) == 4 or product > 30:
            return [-28]
        self.marks.append(marks)
        self.renew()
        return [len(self.marks) - 1]

    def call_drop(self, number):
        if number >= len(self.rules):
            return [-2]
        self.rules.pop(number)
        self.renew()
        return [len(self.rules)]

    def call_all_states(self):
        return self.narrowed(self.fitting(self.rules))

    def call_from_state(self, *state):
        if list(state) not in self.fitting([]):
            return [-22]
        return self.narrowed([list(state)]) if self.fits(state, self.rules) else [-33]

    def call_seen(self, i, p):
        if i >= len(self.marks):
            return [-2]
        if p > 2 * self.marks[i]:
            return [-22]
        return self.narrowed([state for state in self.current if state[2 * i] == p])

    def call_goes(self, i, d):
        if i >= len(self.marks):
            return [-2]
        if d > 2:
            return [-22]
        return self.narrowed([state for state in self.current if state[2 * i + 1] == d])

    def call_tick(self):
        fitting = self.fitting(self.rules)
        if len(fitting) > 120:
            return [-28]
        return self.narrowed(sorted(later for later in fitting if any(self.follows(s, later) for s in self.current)))

    def call_now(self):
        return [len(self.current)]

    def call_one(self, k):
        return [len(self.marks)] + sorted(self.current)[k] if k < len(self.current) else [-33]


def some_number(chance):
    """A number that is small most of the time."""
    return chance.choice([0, 0, 0, 1, 1, 1, 2, 2, 3, 4, 5, 6, 8, LARGEST] if chance.random() < 0.2 else [0, 1, 2])


def some_rule(chance, quantities):
    """A rule whose quantities are there and differ, where there are enough."""
    name = chance.choice([name for name in HOLDS if name != "sum_of" or quantities > 2])
    given = [chance.choice([0, 0, 1]) for at in range(SIZES[NUMBERS[name]])]
    picked = chance.sample(range(max(quantities, 3)), 3)
    for at in [0, 2] if name in ("rate", "meet") else range(len(given)):
        given[at] = picked[at] % max(quantities, 1)
    return name, given


def some_call(chance, quantities):
    """A call by its name with numbers that are often right."""
    name = chance.choice(BUILT[2:] + ["tick", "tick", "seen", "goes", "one", "one"])
    if chance.random() < 0.05:
        name = chance.choice(BUILT)
    if name == "from_state":
        length = 2 * quantities if chance.random() < 0.9 else chance.randrange(10)
        return name, [some_number(chance) for at in range(length)]
    return name, [some_number(chance) for at in range(SIZES[NUMBERS[name]])]


def some_calls(chance):
    """A line of thirty calls at most."""
    calls = [("begin", [])] if chance.random() < 0.95 else []
    quantities = chance.choice([0, 1, 2, 2, 3, 3, 3, 4])
    for at in range(quantities):
        calls.append(("quantity", [chance.choice([0, 0, 1, 1, 1, 1, 2, 2, 3, 3, 4])]))
    rules = chance.choice([0, 0.3, 0.9])
    for at in range(chance.randrange(4, 25)):
        calls.append(some_rule(chance, quantities) if chance.random() < rules else some_call(chance, quantities))
    return calls


def numbers_of(calls):
    """A line's numbers."""
    numbers = []
    for name, given in calls:
        numbers += [NUMBERS[name]] + ([len(given)] if name == "from_state" else []) + given
    return numbers


class Lines(unittest.TestCase):
    def test_as_the_words_say(self):
        chance = random.Random(20)
        answered = {name: set() for name in BUILT}
        for turn in range(1500):
            calls = some_calls(chance)
            words = Words()
            told = split(answers(numbers_of(calls)))
            for (name, given), answer in zip(calls, told, strict=True):
                self.assertEqual(words.call(name, given), answer, (calls, name, given))
                answered[name].add(min(answer[0], 0))
        # The lines are worth little if chance leaves out a sort of answer.
        ruled = set().union(*[answered[name] for name in HOLDS])
        self.assertEqual(ruled, {0, -2, -11, -22, -28, -33})
        for name, told in (("quantity", {-22, -28}), ("drop", {-2}), ("from_state", {-22, -33}), ("one", {-33}),
                           ("seen", {-2, -22, -33}), ("goes", {-2, -22, -33}), ("tick", {-28})):
            self.assertLessEqual(told | {0, -11}, answered[name], name)

    def test_what_is_refused_changes_nothing(self):
        chance = random.Random(21)
        for turn in range(400):
            calls = some_calls(chance)
            told = split(answers(numbers_of(calls)))
            taken = [at for at, answer in enumerate(told) if answer[0] >= 0]
            alone = split(answers(numbers_of([calls[at] for at in taken])))
            self.assertEqual(alone, [told[at] for at in taken], calls)


class Refused(unittest.TestCase):
    def test_each_call_with_the_largest_numbers(self):
        before = ("begin", "quantity 2", "quantity 1", "quantity 0", "still 2", "seen 0 3")
        behind = ("now", "one 8", "more 0 1", "now", "drop 0", "now")
        without = tell(*before, *behind)[len(before):]
        for given, refused in (
            ("quantity {}", -22), ("more {} 0", -2), ("more 0 {}", -2), ("less {} 0", -2), ("less 0 {}", -2),
            ("sum_of {} 0 1", -2), ("sum_of 0 {} 1", -2), ("sum_of 0 1 {}", -2), ("rate {} 0 1", -2),
            ("rate 0 {} 1", -22), ("rate 0 0 {}", -2), ("still {}", -2), ("meet {} 0 1 0", -2), ("meet 0 {} 1 0", -22),
            ("meet 0 0 {} 0", -2), ("meet 0 0 1 {}", -22), ("drop {}", -2), ("seen {} 0", -2), ("seen 0 {}", -22),
            ("goes {} 0", -2), ("goes 0 {}", -22), ("one {}", -33),
        ):
            with self.subTest(given=given):
                told = tell(*before, given.format(LARGEST), *behind)[len(before):]
                self.assertEqual(told, [[refused]] + without)

    def test_each_refusal_between_calls(self):
        before = ("begin", "quantity 1", "quantity 0", "quantity 1", "rate 0 0 1", "still 1", [1, 2, 0, 1, 2, 0])
        behind = ("now", "one 0", "tick", "all_states", "tick", "one 3", "goes 2 1", "now", "drop 1", "now")
        without = tell(*before, *behind)[len(before):]
        for given, refused in (("quantity 4", -22), ("quantity 3", -28), ("more 0 3", -2), ("more 2 2", -22),
                               ("less 0 0", -22), ("sum_of 0 1 1", -22), ("rate 0 1 1", -22), ("meet 0 0 1 0", -22),
                               ("drop 2", -2), ([1, 2, 0, 1, 2], -22), ([1, 2, 0, 1, 3, 0], -22),
                               ([0, 2, 0, 1, 2, 0], -33), ("seen 3 0", -2), ("seen 0 3", -22), ("seen 0 0", -33),
                               ("goes 3 0", -2), ("goes 0 3", -22), ("goes 0 0", -33), ("tick", -33), ("one 1", -33)):
            with self.subTest(given=given):
                self.assertEqual(tell(*before, given, *behind)[len(before):], [[refused]] + without)


class WholeNumbers(unittest.TestCase):
    """Numbers that go by one a moment, and whose steps change by one at most, stay among what is told."""

    # By quantity: at which numbers its marks are.
    at = [[2, 5], [0], []]

    def place(self, quantity, number):
        return sum((number > mark) + (number >= mark) for mark in self.at[quantity])

    def state(self, numbers, steps):
        return [part for i in range(3) for part in (self.place(i, numbers[i]), steps[i] + 1)]

    def walk(self, chance, rules):
        """The states that whole numbers are in that obey the rules, up to twelve moments on."""
        words = Words()
        words.marks = [2, 1, 0]
        numbers = [chance.randrange(0, 8), chance.randrange(-2, 3), 0]
        every = list(itertools.product((-1, 0, 1), repeat=3))
        choices = [steps for steps in every if words.fits(self.state(numbers, steps), rules)]
        states = []
        while choices and len(states) < 12:
            steps = chance.choice(choices)
            states.append(self.state(numbers, steps))
            numbers = [number + step for number, step in zip(numbers, steps)]
            choices = [turned for turned in every if all(abs(new - old) <= 1 for new, old in zip(turned, steps))
                       and words.fits(self.state(numbers, turned), rules)]
        return states

    def test_they_are_among_what_is_told(self):
        chance = random.Random(22)
        longest = 0
        for rules in ([("still", (1,)), ("more", (0, 2))], [("rate", (0, 1, 1)), ("less", (1, 2))],
                      [("sum_of", (0, 1, 2)), ("rate", (1, 0, 0))], [("meet", (0, 0, 1, 0)), ("more", (0, 1))],
                      [("rate", (0, 0, 1)), ("rate", (0, 1, 2))]):
            built = ["begin", "quantity 2", "quantity 1", "quantity 0"]
            built += [" ".join([name] + [str(number) for number in given]) for name, given in rules]
            for turn in range(20):
                states = self.walk(chance, rules)
                longest = max(longest, len(states))
                for moments, state in enumerate(states):
                    found = [f"seen {i} {state[2 * i]}" for i in range(3)]
                    found += [f"goes {i} {state[2 * i + 1]}" for i in range(3)]
                    told = tell(*built, states[0], *["tick"] * moments, *found)
                    self.assertEqual(told[-1], [1], (rules, states, moments))
        self.assertEqual(longest, 12)

    def test_a_number_that_leaps_is_not_told(self):
        told = tell("begin", "quantity 2", [0, 2], "tick", "seen 0 2", "seen 0 1", "tick", "seen 0 3", "seen 0 2")
        self.assertEqual(told[3:], [[4], [-33], [2], [5], [-33], [2]])


if __name__ == "__main__":
    unittest.main()
