"""What holds of all lines: the words taken literally, refusals that change nothing, whole numbers that obey."""

import itertools
import random
import unittest

from signplant.futures import answers
from tests.lines import LARGEST, NUMBERS, SIZES, split, tell
from tests.words import HOLDS, Words

KNOWING = ["begin", "quantity", "more", "less", "sum_of", "rate", "still", "meet", "drop", "all_states", "from_state",
           "seen", "goes", "tick", "now", "one"]
ASKING = ["places", "ahead", "later", "ever", "reach", "may", "path", "must", "avoid", "both", "only", "rest", "stuck",
          "round_way", "state"]


def some_number(chance):
    """A number that is small most of the time."""
    return chance.choice([0, 1, 2, 3, 4, 5, 6, 8, 40, 41, LARGEST] if chance.random() < 0.15 else [0, 1, 2])


def some_rule(chance, quantities):
    """A rule whose quantities are there and differ, where there are enough."""
    name = chance.choice([name for name in HOLDS if name != "sum_of" or quantities > 2])
    given = [chance.choice([0, 0, 1]) for at in range(SIZES[NUMBERS[name]])]
    picked = chance.sample(range(max(quantities, 3)), 3)
    for at in [0, 2] if name in ("rate", "meet") else range(len(given)):
        given[at] = picked[at] % max(quantities, 1)
    return name, given


def some_call(chance, quantities):
    """A call by its name with numbers that are often right."""
    name = chance.choice(KNOWING[2:] + ["tick", "tick", "seen", "goes", "one", "one"])
    if chance.random() < 0.05:
        name = chance.choice(KNOWING)
    if name == "from_state":
        length = 2 * quantities if chance.random() < 0.9 else chance.randrange(10)
        return name, [some_number(chance) for at in range(length)]
    return name, [some_number(chance) for at in range(SIZES[NUMBERS[name]])]


def some_calls(chance):
    """A line of thirty calls at most."""
    calls = [("begin", [])] if chance.random() < 0.95 else []
    quantities = chance.choice([0, 1, 2, 2, 3, 3, 3, 4])
    for at in range(quantities):
        calls.append(("quantity", [chance.choice([0, 0, 1, 1, 1, 1, 2, 2, 3, 3, 4])]))
    rules = chance.choice([0, 0.3, 0.9])
    for at in range(chance.randrange(4, 25)):
        calls.append(some_rule(chance, quantities) if chance.random() < rules else some_call(chance, quantities))
    return calls


def some_asked(chance, quantities):
    """A call of those that change nothing, its quantities being there most of the time."""
    name = chance.choice(ASKING)
    given = [some_number(chance) for at in range(SIZES[NUMBERS[name]])]
    if quantities > 0 and chance.random() < 0.9:
        for at in range(0, len(given), 2):
            given[at] = chance.randrange(quantities)
    return name, given


def some_calls_asked(chance):
    """A line of thirty calls at most, of which many are asked of the ways."""
    calls = [("begin", [])] if chance.random() < 0.97 else []
    quantities = chance.choice([0, 1, 2, 2, 3, 3, 3, 4])
    for at in range(quantities):
        calls.append(("quantity", [chance.choice([0, 0, 1, 1, 1, 2, 2, 3])]))
    for at in range(chance.randrange(1, 1 + 2 * max(quantities, 1))):
        calls.append(some_rule(chance, quantities))
    for at in range(chance.randrange(5, 31 - len(calls))):
        knowing = chance.random() < 0.3
        calls.append(some_call(chance, quantities) if knowing else some_asked(chance, quantities))
    return calls


def numbers_of(calls):
    """A line's numbers."""
    numbers = []
    for name, given in calls:
        numbers += [NUMBERS[name]] + ([len(given)] if name == "from_state" else []) + given
    return numbers


class Lines(unittest.TestCase):
    def compare(self, names, lines):
        """Compares each answer with the words, and gives back which refusals (or 0) each call was answered with."""
        answered = {name: set() for name in names}
        for calls in lines:
            words = Words()
            told = split(answers(numbers_of(calls)))
            for (name, given), answer in zip(calls, told, strict=True):
                self.assertEqual(words.call(name, given), answer, (calls, name, given))
                answered.setdefault(name, set()).add(min(answer[0], 0))
        return answered

    def test_as_the_words_say(self):
        chance = random.Random(20)
        answered = self.compare(KNOWING, [some_calls(chance) for turn in range(1500)])
        # The lines are worth little if chance leaves out a sort of answer.
        ruled = set().union(*[answered[name] for name in HOLDS])
        self.assertEqual(ruled, {0, -2, -11, -22, -28, -33})
        for name, told in (("quantity", {-22, -28}), ("drop", {-2}), ("from_state", {-22, -33}), ("one", {-33}),
                           ("seen", {-2, -22, -33}), ("goes", {-2, -22, -33}), ("tick", {-28})):
            self.assertLessEqual(told | {0, -11}, answered[name], name)

    def test_what_is_asked_as_the_words_say(self):
        chance = random.Random(23)
        answered = self.compare(ASKING, [some_calls_asked(chance) for turn in range(600)])
        for name, told in (("places", {-2}), ("ahead", {-22, -28}), ("later", {-2, -22, -28}), ("ever", {-2, -28}),
                           ("reach", {-28}), ("may", {-2, -22, -28, -33}), ("path", {-2, -22, -28, -33}),
                           ("must", {-2, -22, -28, -33}), ("avoid", {-2, -22, -28}), ("both", {-2, -22, -28, -33}),
                           ("only", {-2, -22, -28, -33}), ("rest", {-28, -33}), ("stuck", {-28, -33}),
                           ("round_way", {-28, -33}), ("state", set())):
            self.assertEqual(told | {0, -11}, answered[name], name)

    def test_what_is_refused_changes_nothing(self):
        chance = random.Random(21)
        for turn in range(400):
            calls = some_calls(chance) if turn % 2 else some_calls_asked(chance)
            told = split(answers(numbers_of(calls)))
            taken = [at for at, answer in enumerate(told) if answer[0] >= 0]
            alone = split(answers(numbers_of([calls[at] for at in taken])))
            self.assertEqual(alone, [told[at] for at in taken], calls)

    def test_what_is_asked_changes_nothing(self):
        chance = random.Random(24)
        for turn in range(200):
            calls = some_calls_asked(chance)
            told = split(answers(numbers_of(calls)))
            kept = [at for at, (name, given) in enumerate(calls) if name not in ASKING]
            alone = split(answers(numbers_of([calls[at] for at in kept])))
            self.assertEqual(alone, [told[at] for at in kept], calls)


class Refused(unittest.TestCase):
    def test_each_call_with_the_largest_numbers(self):
        before = ("begin", "quantity 2", "quantity 1", "quantity 0", "still 2", "seen 0 3")
        behind = ("now", "one 8", "more 0 1", "now", "drop 0", "now")
        without = tell(*before, *behind)[len(before):]
        for given, refused in (
            ("quantity {}", -22), ("more {} 0", -2), ("more 0 {}", -2), ("less {} 0", -2), ("less 0 {}", -2),
            ("sum_of {} 0 1", -2), ("sum_of 0 {} 1", -2), ("sum_of 0 1 {}", -2), ("rate {} 0 1", -2),
            ("rate 0 {} 1", -22), ("rate 0 0 {}", -2), ("still {}", -2), ("meet {} 0 1 0", -2), ("meet 0 {} 1 0", -22),
            ("meet 0 0 {} 0", -2), ("meet 0 0 1 {}", -22), ("drop {}", -2), ("seen {} 0", -2), ("seen 0 {}", -22),
            ("goes {} 0", -2), ("goes 0 {}", -22), ("one {}", -33),
        ):
            with self.subTest(given=given):
                told = tell(*before, given.format(LARGEST), *behind)[len(before):]
                self.assertEqual(told, [[refused]] + without)

    def test_each_refusal_between_calls(self):
        before = ("begin", "quantity 1", "quantity 0", "quantity 1", "rate 0 0 1", "still 1", [1, 2, 0, 1, 2, 0])
        behind = ("now", "one 0", "tick", "all_states", "tick", "one 3", "goes 2 1", "now", "drop 1", "now")
        without = tell(*before, *behind)[len(before):]
        for given, refused in (("quantity 4", -22), ("quantity 3", -28), ("more 0 3", -2), ("more 2 2", -22),
                               ("less 0 0", -22), ("sum_of 0 1 1", -22), ("rate 0 1 1", -22), ("meet 0 0 1 0", -22),
                               ("drop 2", -2), ([1, 2, 0, 1, 2], -22), ([1, 2, 0, 1, 3, 0], -22),
                               ([0, 2, 0, 1, 2, 0], -33), ("seen 3 0", -2), ("seen 0 3", -22), ("seen 0 0", -33),
                               ("goes 3 0", -2), ("goes 0 3", -22), ("goes 0 0", -33), ("tick", -33), ("one 1", -33)):
            with self.subTest(given=given):
                self.assertEqual(tell(*before, given, *behind)[len(before):], [[refused]] + without)


class WholeNumbers(unittest.TestCase):
    """Numbers that go by one a moment, and whose steps change by one at most, stay among what is told."""

    # By quantity: at which numbers its marks are.
    at = [[2, 5], [0], []]

    def place(self, quantity, number):
        return sum((number > mark) + (number >= mark) for mark in self.at[quantity])

    def state(self, numbers, steps):
        return [part for i in range(3) for part in (self.place(i, numbers[i]), steps[i] + 1)]

    def walk(self, chance, rules):
        """The states that whole numbers are in that obey the rules, up to twelve moments on."""
        words = Words()
        words.marks = [2, 1, 0]
        numbers = [chance.randrange(0, 8), chance.randrange(-2, 3), 0]
        every = list(itertools.product((-1, 0, 1), repeat=3))
        choices = [steps for steps in every if words.fits(self.state(numbers, steps), rules)]
        states = []
        while choices and len(states) < 12:
            steps = chance.choice(choices)
            states.append(self.state(numbers, steps))
            numbers = [number + step for number, step in zip(numbers, steps)]
            choices = [turned for turned in every if all(abs(new - old) <= 1 for new, old in zip(turned, steps))
                       and words.fits(self.state(numbers, turned), rules)]
        return states

    def walks(self, chance, turns):
        """Some walks under several sets of rules, each with the calls that make its plant and begin with its state."""
        for rules in ([("still", (1,)), ("more", (0, 2))], [("rate", (0, 1, 1)), ("less", (1, 2))],
                      [("sum_of", (0, 1, 2)), ("rate", (1, 0, 0))], [("meet", (0, 0, 1, 0)), ("more", (0, 1))],
                      [("rate", (0, 0, 1)), ("rate", (0, 1, 2))]):
            built = ["begin", "quantity 2", "quantity 1", "quantity 0"]
            built += [" ".join([name] + [str(number) for number in given]) for name, given in rules]
            for turn in range(turns):
                states = self.walk(chance, rules)
                # Where the numbers begin, no steps may obey the rules.
                if states:
                    yield [*built, states[0]], states

    def test_they_are_among_what_is_told(self):
        longest = 0
        for calls, states in self.walks(random.Random(22), 20):
            longest = max(longest, len(states))
            for moments, state in enumerate(states):
                found = [f"seen {i} {state[2 * i]}" for i in range(3)]
                found += [f"goes {i} {state[2 * i + 1]}" for i in range(3)]
                told = tell(*calls, *["tick"] * moments, *found)
                self.assertEqual(told[-1], [1], (calls, states, moments))
        self.assertEqual(longest, 12)

    def test_their_places_are_told_so_many_moments_on(self):
        for calls, states in self.walks(random.Random(26), 8):
            for i in range(3):
                asked = [f"later {i} {moments}" for moments in range(len(states))]
                told = tell(*calls, f"ever {i}", *asked)[len(calls):]
                for state, places in zip(states, told[1:], strict=True):
                    self.assertIn(state[2 * i], places[1:])
                    self.assertIn(state[2 * i], told[0][1:])
            reach = tell(*calls, "reach")[-1][0]
            self.assertGreaterEqual(reach, len({tuple(state) for state in states}))

    def test_they_come_no_sooner_and_surely_no_later_than_told(self):
        surely = 0
        for calls, states in self.walks(random.Random(27), 12):
            for i, p in [(i, p) for i in range(3) for p in range(2 * [2, 1, 0][i] + 1)]:
                met = [moments for moments, state in enumerate(states) if state[2 * i] == p]
                asked = [f"may {i} {p}", f"must {i} {p}", f"avoid {i} {p}"]
                may, must, avoid = [told[0] for told in tell(*calls, *asked)[-3:]]
                if met:
                    self.assertIn(may, range(met[0] + 1))
                if 0 <= must < len(states):
                    surely += must > 0
                    self.assertLessEqual(met[0], must)
                    self.assertEqual(avoid, 0)
        self.assertGreater(surely, 0)

    def test_two_together_and_one_without_the_other_come_no_sooner_than_told(self):
        places = [(i, p) for i in range(3) for p in range(2 * [2, 1, 0][i] + 1)]
        chance = random.Random(28)
        for calls, states in self.walks(chance, 8):
            for (i, p), (u, q) in [chance.choices(places, k=2) for turn in range(8)]:
                asked = [f"both {i} {p} {u} {q}", f"only {i} {p} {u} {q}", "rest"]
                both, only, rest = [told[0] for told in tell(*calls, *asked)[-3:]]
                for moments, state in enumerate(states):
                    if state[2 * i] == p and state[2 * u] == q:
                        self.assertIn(both, range(moments + 1))
                    if state[2 * i] == p and all(each[2 * u] != q for each in states[:moments + 1]):
                        self.assertIn(only, range(moments + 1))
                    if state[1::2] == [1, 1, 1]:
                        self.assertIn(rest, range(moments + 1))

    def test_a_number_that_leaps_is_not_told(self):
        told = tell("begin", "quantity 2", [0, 2], "tick", "seen 0 2", "seen 0 1", "tick", "seen 0 3", "seen 0 2")
        self.assertEqual(told[3:], [[4], [-33], [2], [5], [-33], [2]])


if __name__ == "__main__":
    unittest.main()
