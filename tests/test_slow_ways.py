"""The calls on the ways compared with slow ones, which go through ways one by one, over many small plants."""

import itertools
import random
import unittest

from tests.lines import NUMBERS, SIZES, states_now, tell
from tests.plants import ENDING, FREE, HELD, MUTUAL, TOGETHER, WHEEL
from tests.slow import SlowWays
from tests.words import HOLDS, Words

# As many ways are gone through at most; a plant that has more is left out.
MOST_WAYS = 1500
# Ways of just so many moments are gone through for ahead and later.
MOST_MOMENTS = 4


def text_of(name, given):
    return " ".join([name] + [str(number) for number in given])


def some_plant(chance):
    """The marks and the rules of a plant, as they are handed in."""
    marks = chance.choice(([1], [2], [0, 0], [0, 1], [1, 1], [2, 1], [1, 1, 0], [1, 0, 2], [0, 2, 0], [1, 1, 1], [3, 1],
                           [0, 1, 1, 0], [2, 0, 0, 1]))
    quantities = len(marks)
    rules = []
    for at in range(chance.randrange(2 * quantities + 1)):
        name = chance.choice(list(HOLDS))
        given = [chance.randrange(max(marks + [1])) for each in range(SIZES[NUMBERS[name]])]
        for each in [0, 2] if name in ("rate", "meet") else range(len(given)):
            given[each] = chance.randrange(quantities)
        rules.append((name, given))
    return marks, rules


def known_plant(marks, rules):
    """The calls that make the plant, those rules left out that are refused; and the states that fit."""
    words = Words()
    words.call("begin", [])
    calls = ["begin"]
    for name, given in [("quantity", [each]) for each in marks] + rules:
        if words.call(name, given)[0] >= 0:
            calls.append(text_of(name, given))
    return calls, words.fitting(words.rules)


def all_asked(marks):
    """Each call on the ways with all that may be given to it, moments but for a few."""
    asked = [("reach", ()), ("rest", ()), ("stuck", ()), ("round_way", ())]
    asked += [("ahead", (k,)) for k in range(MOST_MOMENTS + 1)]
    asked += [("later", (i, k)) for i in range(len(marks)) for k in range(MOST_MOMENTS + 1)]
    asked += [("ever", (i,)) for i in range(len(marks))]
    places = [(i, p) for i, each in enumerate(marks) for p in range(2 * each + 1)]
    asked += [(name, place) for name in ("may", "path", "must", "avoid") for place in places]
    return asked + [(name, one + other) for name in ("both", "only") for one in places for other in places]


class SlowComparison(unittest.TestCase):
    def compare(self, calls, marks, fitting, current, tally):
        """Compares all that may be asked; nothing is done where there are too many ways."""
        slow = SlowWays(marks, fitting, current)
        if len(list(itertools.islice(slow.walk(slow.current), MOST_WAYS + 1))) > MOST_WAYS:
            return False
        slow.go_through()
        asked = all_asked(marks)
        room = 30 - len(calls)
        for at in range(0, len(asked), room):
            part = asked[at:at + room]
            told = tell(*calls, *[text_of(name, given) for name, given in part])[len(calls):]
            for (name, given), answer in zip(part, told, strict=True):
                self.assertEqual(getattr(slow, name)(*given), answer, (calls, name, given))
                tally.setdefault(name, set()).add(answer[0])
        return True

    def test_plants_told_by_eye(self):
        tally = {}
        for plant, marks in ((FREE, [1]), (WHEEL, [1, 1, 0]), (HELD, [1, 0]), (ENDING, [1, 1, 0]), (TOGETHER, [1, 1]),
                             (MUTUAL, [1, 2])):
            fitting = states_now(*plant)
            self.assertTrue(self.compare(list(plant), marks, fitting, fitting, tally), plant)
            for state in fitting:
                self.assertTrue(self.compare([*plant, state], marks, fitting, [state], tally), (plant, state))
        for name, answers in (("must", {-33, 0, 1, 2}), ("stuck", {-33, 0, 1, 2}), ("round_way", {-33, 2, 8})):
            self.assertLessEqual(answers, tally[name], name)

    def test_without_quantities(self):
        self.assertTrue(self.compare(["begin"], [], [[]], [[]], {}))

    def test_many_small_plants(self):
        chance = random.Random(25)
        tally = {}
        compared = 0
        while compared < 300:
            marks, rules = some_plant(chance)
            calls, fitting = known_plant(marks, rules)
            if len(fitting) > 40 or len(calls) > 15:
                continue
            calls = calls + [chance.choice(fitting)]
            # Now is one state, what follows it, or what of that is seen.
            for more in ([], ["tick"], ["tick", f"goes 0 {chance.randrange(3)}"]):
                if tell(*calls, *more)[-1] != [-33]:
                    compared += self.compare(calls + more, marks, fitting, states_now(*calls, *more), tally)
        for name, answers in (("may", {-33, 0, 1, 2, 3, 4}), ("path", {-33, 0, 1, 2, 3, 4}), ("must", {-33, 0, 1}),
                              ("avoid", {0, 1}), ("both", {-33, 0, 1, 2, 3, 4}), ("only", {-33, 0, 1, 2, 3, 4}),
                              ("rest", {-33, 0, 1, 2}), ("stuck", {-33, 0, 1}), ("round_way", {-33, 2}),
                              ("ahead", {0, 1, 2, 3}), ("later", {0, 1, 2, 3}), ("ever", {1, 2, 3})):
            self.assertLessEqual(answers, tally[name], name)


if __name__ == "__main__":
    unittest.main()
