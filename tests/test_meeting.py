"""both, only, rest, stuck and round."""

import unittest

from tests.lines import last, tell
from tests.plants import (
    CHAIN, CIRCLE, DOOMED, EAST, ENDING, FREE, HELD, MIDDLE, NORTH_EAST, PULLED, SOUTH_EAST, SOUTH_WEST, TOGETHER,
    WHEEL,
)


class Both(unittest.TestCase):
    def test_at_once(self):
        self.assertEqual(last(*WHEEL, EAST, "both 0 2 1 1"), [0])
        self.assertEqual(last(*WHEEL, "both 0 1 1 1"), [0])

    def test_how_few_moments(self):
        # Not when each of them comes, but when both are there.
        self.assertEqual(tell(*WHEEL, EAST, "both 0 1 1 0", "both 0 0 1 0", "both 0 0 1 1", "both 0 1 1 2",
                              "both 0 2 1 2", "both 1 0 0 2")[-6:], [[2], [3], [4], [6], [7], [1]])
        self.assertEqual(tell(*WHEEL, EAST, "may 0 1", "may 1 2", "both 0 1 1 2")[-3:], [[2], [5], [6]])

    def test_either_one_first(self):
        self.assertEqual(last(*WHEEL, EAST, "both 1 2 0 1"), [6])

    def test_never(self):
        # Both come to their marks, but not at a time.
        self.assertEqual(tell(*WHEEL, EAST, "may 0 1", "may 1 1", "both 0 1 1 1")[-3:], [[2], [0], [-33]])
        self.assertEqual(tell(*TOGETHER, [0, 2, 0, 2], "both 0 1 1 1", "both 0 1 1 0", "both 0 1 1 2")[-3:],
                         [[1], [-33], [-33]])
        self.assertEqual(last(*ENDING, DOOMED, "both 0 1 1 0"), [-33])

    def test_one_quantity_and_one_place(self):
        self.assertEqual(tell(*WHEEL, EAST, "both 0 1 0 1", "both 0 2 0 2", "both 1 2 1 2")[-3:], [[2], [0], [5]])
        self.assertEqual(last(*WHEEL, MIDDLE, "both 0 2 0 2"), [-33])

    def test_one_quantity_and_two_places(self):
        self.assertEqual(tell(*FREE, "both 0 0 0 1", "both 0 1 0 2", "both 0 2 0 0")[-3:], [[-33], [-33], [-33]])


class Only(unittest.TestCase):
    def test_at_once(self):
        self.assertEqual(last(*WHEEL, EAST, "only 0 2 1 0"), [0])
        self.assertEqual(last(*WHEEL, "only 0 2 1 0"), [0])

    def test_how_few_moments(self):
        self.assertEqual(tell(*WHEEL, EAST, "only 0 1 1 2", "only 0 0 1 2", "only 1 0 0 0")[-3:], [[2], [3], [1]])
        self.assertEqual(last(*WHEEL, SOUTH_WEST, "only 1 2 0 2"), [2])

    def test_only_behind_what_is_barred(self):
        # From the east 0 comes to its mark only behind 1 being below its own.
        self.assertEqual(tell(*WHEEL, EAST, "may 0 1", "only 0 1 1 0")[-2:], [[2], [-33]])
        self.assertEqual(tell(*CHAIN, PULLED, "may 0 2", "only 0 2 1 2", "only 0 2 1 0")[-3:], [[3], [-33], [3]])

    def test_the_first_state_counts(self):
        self.assertEqual(tell(*WHEEL, EAST, "only 0 1 1 1", "only 0 2 1 1", "only 1 0 0 2")[-3:], [[-33], [-33], [-33]])

    def test_the_last_state_counts(self):
        self.assertEqual(tell(*TOGETHER, [0, 2, 0, 2], "may 0 1", "only 0 1 1 1", "only 0 1 1 2")[-3:],
                         [[1], [-33], [1]])

    def test_a_state_between_counts(self):
        self.assertEqual(tell(*FREE, [0, 2], "may 0 2", "only 0 2 0 1")[-2:], [[2], [-33]])

    def test_a_longer_way_round_it(self):
        # Both rise and fall together. If they rise at once, 0 comes to its mark as 1 comes above its own; if they fall
        # first, 1 comes below its mark, and 0 may rise to its own meanwhile.
        paired = ("begin", "quantity 1", "quantity 1", "more 0 1", [0, 1, 1, 1])
        self.assertEqual(tell(*paired, "may 0 1", "only 0 1 1 2", "only 0 2 1 2", "may 0 2")[-4:], [[2], [4], [5], [3]])

    def test_other_states_of_now_are_begun_with(self):
        told = tell(*WHEEL, "seen 0 2", "may 0 1", "only 0 1 1 2", "only 0 1 1 0", "may 1 0", "only 1 0 0 0")
        self.assertEqual(told[-5:], [[1], [1], [-33], [0], [0]])
        # Of the two states of now the north-east is barred, and the ways from the east alone count.
        two = (*WHEEL, NORTH_EAST, "tick")
        self.assertEqual(tell(*two, "now", "only 1 1 1 2", "only 1 0 1 2", "only 0 1 1 2", "only 0 2 1 1")[-5:],
                         [[2], [0], [1], [2], [0]])

    def test_one_quantity_and_one_place(self):
        self.assertEqual(tell(*FREE, "only 0 0 0 0", "only 0 1 0 1", "only 0 2 0 2")[-3:], [[-33], [-33], [-33]])
        self.assertEqual(last(*WHEEL, EAST, "only 0 1 0 1"), [-33])

    def test_one_quantity_and_two_places(self):
        self.assertEqual(tell(*FREE, "only 0 0 0 1", "only 0 1 0 2", "only 0 2 0 0")[-3:], [[0], [0], [0]])
        self.assertEqual(tell(*FREE, [0, 0], "only 0 1 0 2", "only 0 2 0 1", "only 0 1 0 0", "only 0 0 0 2")[-4:],
                         [[3], [-33], [-33], [0]])
        self.assertEqual(tell(*WHEEL, SOUTH_WEST, "only 0 1 0 2", "only 0 2 0 1")[-2:], [[3], [-33]])


class Rest(unittest.TestCase):
    def test_at_once(self):
        self.assertEqual(last(*WHEEL, MIDDLE, "rest"), [0])
        self.assertEqual(last(*WHEEL, "rest"), [0])
        self.assertEqual(last(*FREE, "rest"), [0])

    def test_without_quantities_all_are_steady(self):
        self.assertEqual(last("begin", "rest"), [0])

    def test_how_few_moments(self):
        self.assertEqual(last(*FREE, [0, 0], "rest"), [1])
        self.assertEqual(last("begin", "quantity 1", "quantity 1", [0, 2, 2, 0], "rest"), [1])
        # 0 rises as long as 1 is above its mark, and 1 takes a moment to come to it.
        self.assertEqual(last("begin", "quantity 0", "quantity 1", "rate 1 0 0", [0, 2, 2, 0], "rest"), [1])
        self.assertEqual(last("begin", "quantity 0", "quantity 1", "rate 1 0 0", [0, 2, 2, 1], "rest"), [2])
        self.assertEqual(last("begin", "quantity 0", "quantity 1", "rate 1 0 0", [0, 2, 2, 2], "rest"), [3])

    def test_each_quantity_has_to_be_steady(self):
        for state in CIRCLE:
            self.assertEqual(last(*WHEEL, state, "rest"), [-33])

    def test_never(self):
        self.assertEqual(last(*ENDING, DOOMED, "rest"), [-33])
        self.assertEqual(last(*HELD, [1, 0, 0, 1], "rest"), [-33])

    def test_standing_still_is_no_rest(self):
        # A corner of the wheel follows itself, but its quantities move.
        self.assertEqual(tell(*WHEEL, SOUTH_EAST, "rest", "avoid 0 1")[-2:], [[-33], [1]])

    def test_a_rest_may_be_left(self):
        self.assertEqual(tell(*HELD, [1, 1, 0, 1], "rest", "stuck")[-2:], [[0], [1]])


class Stuck(unittest.TestCase):
    def test_at_once(self):
        self.assertEqual(last(*HELD, [1, 2, 0, 1], "stuck"), [0])
        self.assertEqual(last(*HELD, [1, 0, 0, 1], "stuck"), [0])
        self.assertEqual(last(*HELD, "stuck"), [0])

    def test_how_few_moments(self):
        self.assertEqual(last(*HELD, [1, 1, 0, 1], "stuck"), [1])
        self.assertEqual(last(*ENDING, DOOMED, "stuck"), [1])
        self.assertEqual(last(*ENDING, [1, 1, 1, 1, 0, 1], "stuck"), [2])

    def test_never(self):
        self.assertEqual(last(*FREE, "stuck"), [-33])
        self.assertEqual(last(*CHAIN, "stuck"), [-33])
        for state in CIRCLE:
            self.assertEqual(last(*WHEEL, state, "stuck"), [-33])

    def test_a_state_that_follows_itself_alone_is_not_stuck(self):
        self.assertEqual(last(*WHEEL, MIDDLE, "stuck"), [-33])
        self.assertEqual(last(*FREE, "still 0", "stuck"), [-33])

    def test_without_quantities(self):
        self.assertEqual(last("begin", "stuck"), [-33])

    def test_not_from_now(self):
        # 0 is held at its mark, and 1 is how fast it changes: steady at their marks both stay there.
        apart = ("begin", "quantity 1", "quantity 1", "rate 0 0 1", "still 1", "rate 1 0 0")
        self.assertEqual(tell(*apart, "now", "stuck", [1, 1, 1, 1], "stuck", [1, 2, 2, 1], "stuck")[-6:],
                         [[3], [0], [1], [-33], [1], [0]])


class Round(unittest.TestCase):
    def test_a_round_of_two(self):
        self.assertEqual(last("begin", "quantity 0", "round_way"), [2])
        self.assertEqual(last(*FREE, "round_way"), [2])
        self.assertEqual(last(*FREE, [1, 2], "round_way"), [2])
        self.assertEqual(last("begin", "quantity 0", "quantity 0", "less 0 1", [0, 0, 0, 2], "round_way"), [2])

    def test_a_round_of_eight(self):
        for state in CIRCLE:
            self.assertEqual(last(*WHEEL, state, "round_way"), [8])
        self.assertEqual(last(*WHEEL, "round_way"), [8])

    def test_it_need_not_come_back_to_now(self):
        # From its mark it moves off at once, and goes round elsewhere.
        self.assertEqual(last(*CHAIN, PULLED, "round_way"), [2])
        self.assertEqual(tell(*CHAIN, PULLED, "must 2 2", "round_way")[-2:], [[1], [2]])

    def test_standing_still_is_no_round(self):
        self.assertEqual(last(*WHEEL, MIDDLE, "round_way"), [-33])
        self.assertEqual(last(*FREE, "still 0", "round_way"), [-33])
        self.assertEqual(last(*HELD, "round_way"), [-33])

    def test_ways_that_end(self):
        self.assertEqual(last(*ENDING, DOOMED, "round_way"), [-33])
        self.assertEqual(last(*HELD, [1, 2, 0, 1], "round_way"), [-33])

    def test_without_quantities(self):
        self.assertEqual(last("begin", "round_way"), [-33])

    def test_one_that_does_not_come_from_now(self):
        self.assertEqual(tell(*WHEEL, "round_way", MIDDLE, "round_way", "all_states", "round_way")[-5:],
                         [[8], [1], [-33], [9], [8]])


if __name__ == "__main__":
    unittest.main()
