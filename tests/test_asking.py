"""What all calls on the ways from now share: their refusals in order, that they change nothing, how long they take."""

import time
import unittest

from signplant.asking import ask
from signplant.narrowing import tick
from signplant.plant import Plant, settle, too_many_fit
from tests.lines import LARGEST, last, states_now, tell
from tests.plants import DOOMED, EAST, ENDING, FITTING_119, FITTING_121, FREE, HELD, MIDDLE, SOUTH_EAST, WEST, WHEEL

# Each call on the ways, with a quantity {i} and a place {p} (or moments {k}); for both and only the second time too.
OF_A_QUANTITY = ("later {i} 0", "ever {i}", "may {i} 0", "path {i} 0", "must {i} 0", "avoid {i} 0", "both {i} 0 0 0",
                 "both 0 0 {i} 0", "both {i} 0 {i} 0", "only {i} 0 0 0", "only 0 0 {i} 0", "only {i} 0 {i} 0")
OF_A_PLACE = ("may {i} {p}", "path {i} {p}", "must {i} {p}", "avoid {i} {p}", "both {i} {p} 0 0", "both 0 0 {i} {p}",
              "both {i} {p} {i} {p}", "only {i} {p} 0 0", "only 0 0 {i} {p}", "only {i} {p} {i} {p}")
OF_MOMENTS = ("ahead {k}", "later 0 {k}", "later 1 {k}")
ALL_ASKED = ("ahead 0", "ahead 3", "later 0 0", "later 1 2", "ever 0", "reach", "may 0 1", "path 0 1", "must 0 1",
             "avoid 0 1", "both 0 1 1 0", "only 0 1 1 0", "rest", "stuck", "round_way")
# 243 states fit; 0 rises from its mark, where it is held, and nothing follows.
MANY_HELD = ("begin", "quantity 1", "quantity 1", "quantity 0", "quantity 1", "rate 0 0 2", "still 2",
             [1, 2, 0, 0, 0, 1, 0, 0])


class Refusals(unittest.TestCase):
    def test_no_such_quantity(self):
        for text in OF_A_QUANTITY:
            for i in (3, 4, 255, LARGEST):
                with self.subTest(text=text, i=i):
                    self.assertEqual(last(*WHEEL, text.format(i=i)), [-2])
            self.assertEqual(last("begin", text.format(i=0)), [-2])

    def test_no_such_quantity_is_named_first(self):
        wrong = ("later 4 41", f"later {LARGEST} {LARGEST}", "ever 4", "may 4 9", "path 4 9", "must 4 9", "avoid 4 9",
                 "both 4 9 0 9", "both 0 9 4 9", "both 4 9 4 9", "only 4 9 0 9", "only 0 9 4 9", "only 4 9 4 9")
        for plant in (FITTING_121, MANY_HELD, FITTING_119):
            for text in wrong:
                self.assertEqual(last(*plant, text), [-2], text)
        self.assertEqual(last(*WHEEL, "later 3 41"), [-2])

    def test_too_many_states_fit(self):
        for text in ALL_ASKED:
            self.assertEqual(tell(*FITTING_121, text, "now")[-2:], [[-28], [121]], text)
            self.assertNotEqual(last(*FITTING_119, text), [-28], text)

    def test_those_that_fit_count_not_those_of_now(self):
        for text in ALL_ASKED:
            self.assertEqual(tell(*FITTING_121, [0, 1, 0, 1, 0, 1, 0, 1], text, "now")[-3:], [[1], [-28], [1]], text)
            self.assertEqual(tell(*MANY_HELD, text, "now")[-2:], [[-28], [1]], text)

    def test_too_many_stands_ahead_of_places_and_moments(self):
        for text in OF_A_PLACE:
            for p in (5, LARGEST):
                self.assertEqual(last(*FITTING_121, text.format(i=1, p=p)), [-28], text)
        for text in OF_MOMENTS:
            for k in (41, LARGEST):
                self.assertEqual(last(*FITTING_121, text.format(k=k)), [-28], text)

    def test_just_a_hundred_and_twenty(self):
        # No quantities and rules make it just so many: of the 121 states some are left out by hand.
        plant = Plant()
        plant.begun, plant.marks = True, [2, 2, 0, 0]
        states = states_now(*FITTING_121)
        for many, refused in ((119, False), (120, False), (121, True)):
            settle(plant, states[:many])
            self.assertEqual(too_many_fit(plant), refused)
            self.assertEqual(ask(plant, "reach", []), [-28] if refused else [many])
            self.assertEqual(ask(plant, "ahead", [0]), [-28] if refused else [many])
            self.assertEqual(ask(plant, "may", [0, 0]), [-28] if refused else [0])
            self.assertEqual(ask(plant, "may", [0, 5]), [-28] if refused else [-22])
            self.assertEqual(tick(plant) == [-28], refused)

    def test_answered_again_behind_one_more_rule(self):
        told = tell(*FITTING_121, "reach", "still 3", "reach", "round_way", "drop 4", "reach")
        self.assertEqual([told[-6], told[-1]], [[-28], [-28]])
        self.assertEqual(told[-3], [2])
        self.assertGreater(told[-4][0], 0)

    def test_no_such_place(self):
        for text in OF_A_PLACE:
            for i, p in ((0, 3), (1, 3), (2, 1), (0, 255), (1, LARGEST), (2, LARGEST)):
                with self.subTest(text=text, i=i, p=p):
                    self.assertEqual(last(*WHEEL, text.format(i=i, p=p)), [-22])
                    self.assertEqual(last(*WHEEL, MIDDLE, text.format(i=i, p=p)), [-22])

    def test_each_quantity_has_its_own_places(self):
        plant = ("begin", "quantity 3", "quantity 0", "quantity 0")
        for text in OF_A_PLACE:
            self.assertEqual(last(*plant, text.format(i=0, p=7)), [-28], text)
            self.assertEqual(last(*plant, "still 1", "still 2", text.format(i=0, p=7)), [-22], text)
            self.assertNotIn(last(*plant, "still 1", "still 2", text.format(i=0, p=6)), ([-22], [-28]), text)
            self.assertEqual(last(*plant, "still 1", "still 2", text.format(i=1, p=1)), [-22], text)
            self.assertNotIn(last(*plant, "still 1", "still 2", text.format(i=1, p=0)), ([-22], [-28]), text)

    def test_no_such_place_stands_ahead_of_never(self):
        for text in OF_A_PLACE:
            self.assertEqual(last(*ENDING, DOOMED, text.format(i=1, p=3)), [-22], text)
        self.assertEqual(last(*ENDING, DOOMED, "both 1 0 0 3"), [-22])
        self.assertEqual(last(*ENDING, DOOMED, "only 1 0 0 3"), [-22])
        self.assertEqual(last(*ENDING, DOOMED, "both 1 0 0 2"), [-33])

    def test_forty_moments_and_forty_one(self):
        for text in OF_MOMENTS:
            for plant in (WHEEL, (*ENDING, DOOMED), FITTING_119):
                self.assertGreaterEqual(last(*plant, text.format(k=40))[0], 0, text)
                for k in (41, 42, 255, LARGEST):
                    self.assertEqual(last(*plant, text.format(k=k)), [-22], text)
        self.assertEqual(tell("begin", "ahead 40", "ahead 41"), [[0], [1], [-22]])

    def test_forty_moments_are_gone_by(self):
        self.assertEqual(last(*FITTING_119, [0, 0, 0, 0, 0, 0, 0, 0], "ahead 40"), [119])
        self.assertEqual(last(*FITTING_119, [0, 0, 0, 0, 0, 0, 0, 0], "later 0 40"), [7, 0, 1, 2, 3, 4, 5, 6])
        self.assertEqual(tell(*FREE, [0, 0], "later 0 2", "later 0 3", "later 0 4")[-3:],
                         [[1, 0], [2, 0, 1], [3, 0, 1, 2]])

    def test_ahead_of_a_begin(self):
        for text in (*ALL_ASKED, "places 0", "state", "later 9 99", "may 9 9", "ahead 41", f"only 0 0 0 {LARGEST}"):
            self.assertEqual(tell(text, "begin", "state"), [[-11], [0], [0, 0, 1, 1]], text)


class NothingChanges(unittest.TestCase):
    before = (*WHEEL, SOUTH_EAST, "tick")
    behind = ("now", "one 0", "one 1", "one 2", "state", "tick", "now", "one 0", "drop 2", "state", "still 0", "state")

    def test_answered_or_refused(self):
        self.assertEqual(len(tell(*self.before)), 9)
        without = tell(*self.before, *self.behind)[9:]
        self.assertEqual(without[:5], [[2], [3] + [1, 0, 0, 1, 0, 1], [3] + SOUTH_EAST, [-33], [3, 3, 9, 2, 1, 1, 0]])
        refused = ("ahead 41", "later 0 41", "later 3 0", "ever 3", "may 0 3", "may 3 0", "path 0 3", "path 3 0",
                   "must 0 3", "must 3 0", "avoid 0 3", "avoid 3 0", "both 0 1 1 3", "both 0 0 3 0", "both 0 1 1 1",
                   "only 0 1 1 3", "only 0 0 3 0", "only 0 2 1 0", "places 3")
        for text in (*ALL_ASKED, "places 0", "places 1", "state", *refused):
            with self.subTest(text=text):
                told = tell(*self.before, text, *self.behind)[9:]
                self.assertEqual(told[1:], without)
                self.assertTrue(told[0][0] < 0 or text not in refused, told[0])
                self.assertEqual(tell(*self.before, text, text)[10], told[0])

    def test_where_ways_end(self):
        for plant in ((*ENDING, DOOMED), (*HELD, [1, 2, 0, 1])):
            without = tell(*plant, "now", "one 0", "state", "tick", "now", "one 0")[len(plant):]
            for text in (*ALL_ASKED, "places 0", "state", "ahead 40"):
                told = tell(*plant, text, "now", "one 0", "state", "tick", "now", "one 0")[len(plant):]
                self.assertEqual(told[1:], without, text)

    def test_too_many(self):
        behind = ("now", "one 7", "state", "still 3", "reach", "state")
        without = tell(*FITTING_121, "goes 2 0", *behind)[len(FITTING_121) + 1:]
        for text in ALL_ASKED:
            told = tell(*FITTING_121, "goes 2 0", text, *behind)[len(FITTING_121) + 1:]
            self.assertEqual(told, [[-28]] + without, text)

    def test_all_of_them_one_behind_another(self):
        alone = [last(*WHEEL, WEST, text) for text in ALL_ASKED]
        self.assertEqual(tell(*WHEEL, WEST, *ALL_ASKED)[8:], alone)
        self.assertEqual(tell(*WHEEL, WEST, *reversed(ALL_ASKED))[8:], alone[::-1])

    def test_what_was_asked_of_other_rules_is_forgotten(self):
        told = tell(*WHEEL, EAST, "reach", "round_way", "drop 2", "reach", "still 1", "reach", "stuck", "begin",
                    "reach", "quantity 0", "reach", "round_way")
        self.assertEqual(told[8:], [[8], [8], [2], [27], [2], [9], [-33], [0], [1], [0], [3], [2]])


class HowLong(unittest.TestCase):
    def longest(self, *calls):
        started = time.monotonic()
        told = tell(*calls)
        self.assertEqual(len(told), 30)
        self.assertLess(time.monotonic() - started, 5)
        return told

    def test_thirty_calls_over_a_hundred_and_nineteen_states(self):
        asked = ("round_way", "must 0 6", "avoid 0 6", "must 0 3", "path 0 6", "only 0 6 0 3", "both 0 6 3 0",
                 "ahead 40", "later 0 40", "ever 0", "reach", "may 0 6", "rest", "stuck", "round_way", "must 0 0", "avoid 0 1",
                 "path 0 5", "only 0 5 1 0", "ahead 39", "round_way", "avoid 1 0")
        told = self.longest(*FITTING_119, [0, 0, 0, 0, 0, 0, 0, 0], *asked)
        self.assertEqual(told[8:12], [[2], [-33], [1], [-33]])
        self.assertEqual(told[12][0], 8)
        self.assertEqual(len(told[12]), 1 + 9 * 8)

    def test_the_same_call_again_and_again(self):
        for text in ("round_way", "avoid 0 3", "must 0 6", "path 0 6", "ahead 40", "only 0 6 1 0", "stuck"):
            told = self.longest(*FITTING_119, *[text] * 23)
            self.assertEqual(told[7:], [told[7]] * 23)

    def test_with_rules_that_come_and_go(self):
        coming = ["still 3", "round_way", "drop 2", "round_way"] * 5
        self.longest(*FITTING_119, *coming, "tick", "round_way", "avoid 0 6")


if __name__ == "__main__":
    unittest.main()
