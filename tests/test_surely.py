"""must and avoid: what surely comes, and what may be avoided for ever."""

import unittest

from tests.lines import last, states_now, tell
from tests.plants import (
    CHAIN, CIRCLE, DOOMED, EAST, ENDING, FREE, HELD, MIDDLE, MUTUAL, NORTH, PULLED, SOUTH, SOUTH_EAST, TOGETHER, WEST,
    WHEEL,
)


def surely(*calls):
    """What must and avoid answer of the quantity and the place that the last one of the calls names."""
    return tell(*calls[:-1], f"must {calls[-1]}", f"avoid {calls[-1]}")[-2:]


class Comes(unittest.TestCase):
    def test_it_is_there_in_all_states_of_now(self):
        self.assertEqual(surely(*FREE, [1, 2], "0 1"), [[0], [0]])
        self.assertEqual(surely(*FREE, "seen 0 1", "0 1"), [[0], [0]])
        self.assertEqual(surely(*FREE, "seen 0 0", "0 0"), [[0], [0]])
        self.assertEqual(surely(*HELD, "0 1"), [[0], [0]])
        self.assertEqual(surely("begin", "quantity 0", "0 0"), [[0], [0]])

    def test_a_moment_on(self):
        self.assertEqual(surely(*FREE, [1, 2], "0 2"), [[1], [0]])
        self.assertEqual(surely(*FREE, [1, 0], "0 0"), [[1], [0]])
        self.assertEqual(surely(*WHEEL, EAST, "1 0"), [[1], [0]])
        self.assertEqual(surely(*WHEEL, SOUTH, "0 0"), [[1], [0]])

    def test_two_and_three_moments_on(self):
        self.assertEqual(surely(*CHAIN, PULLED, "2 2"), [[1], [0]])
        self.assertEqual(surely(*CHAIN, PULLED, "1 2"), [[2], [0]])
        self.assertEqual(surely(*CHAIN, PULLED, "0 2"), [[3], [0]])

    def test_fewer_a_moment_later(self):
        self.assertEqual(surely(*CHAIN, PULLED, "tick", "0 2"), [[2], [0]])
        self.assertEqual(surely(*CHAIN, PULLED, "tick", "tick", "0 2"), [[1], [0]])
        self.assertEqual(surely(*CHAIN, PULLED, "tick", "tick", "tick", "0 2"), [[0], [0]])

    def test_it_does_not_matter_what_comes_behind(self):
        # 2 may fall below its mark for ever, once it was above it.
        self.assertEqual(surely(*CHAIN, PULLED, "2 2"), [[1], [0]])
        self.assertEqual(surely(*CHAIN, PULLED, "2 1"), [[0], [0]])

    def test_the_longest_way_counts(self):
        # It's above its mark already, or rises from there.
        two = (*FREE, [1, 1], "tick", "tick", "goes 0 2")
        self.assertEqual(states_now(*two), [[1, 2], [2, 2]])
        self.assertEqual(tell(*two, "may 0 2", "must 0 2")[-2:], [[0], [1]])
        # 1 is above its marks already, or steady at the last one of them while 0 rises from its own: then 1 rises a
        # moment later, and is above it behind one more.
        two = (*MUTUAL, [0, 2, 4, 0], "tick", "seen 0 1")
        self.assertEqual(states_now(*two), [[1, 2, 3, 1], [1, 2, 4, 1]])
        self.assertEqual(tell(*two, "may 1 4", "must 1 4", "avoid 1 4")[-3:], [[0], [2], [0]])

    def test_a_way_that_ends_behind_it(self):
        self.assertEqual(surely(*ENDING, DOOMED, "1 2"), [[1], [0]])
        self.assertEqual(surely(*ENDING, DOOMED, "1 1"), [[0], [0]])
        self.assertEqual(surely(*HELD, [1, 2, 0, 1], "0 1"), [[0], [0]])


class Avoided(unittest.TestCase):
    def test_a_way_that_ends_ahead_of_it(self):
        # No way goes on for ever: it isn't avoided so, and comes not surely either.
        self.assertEqual(surely(*ENDING, DOOMED, "1 0"), [[-33], [0]])
        self.assertEqual(surely(*ENDING, DOOMED, "0 2"), [[-33], [0]])
        self.assertEqual(surely(*ENDING, DOOMED, "tick", "1 1"), [[-33], [0]])

    def test_nothing_follows_any_of_now(self):
        self.assertEqual(surely(*HELD, [1, 2, 0, 1], "0 2"), [[-33], [0]])
        self.assertEqual(surely(*HELD, [1, 0, 0, 1], "0 0"), [[-33], [0]])

    def test_some_ways_end_and_some_go_on(self):
        self.assertEqual(surely(*HELD, [1, 1, 0, 1], "0 2"), [[-33], [1]])

    def test_but_for_standing_still(self):
        # A corner of the wheel follows itself: but for that it would come to each place.
        for state in CIRCLE:
            for asked in ("0 0", "0 1", "0 2", "1 0", "1 1", "1 2"):
                i, p = [int(number) for number in asked.split()]
                told = surely(*WHEEL, state, asked)
                if state[2 * i] == p:
                    self.assertEqual(told, [[0], [0]])
                elif (state, asked) in ((EAST, "1 0"), (SOUTH, "0 0"), (WEST, "1 2"), (NORTH, "0 2")):
                    self.assertEqual(told, [[1], [0]])
                else:
                    self.assertEqual(told, [[-33], [1]])

    def test_a_state_that_follows_itself_alone(self):
        self.assertEqual(surely(*WHEEL, MIDDLE, "0 0"), [[-33], [1]])
        self.assertEqual(surely(*FREE, "still 0", [0, 1], "0 1"), [[-33], [1]])
        self.assertEqual(surely(*FREE, [0, 2], "0 1"), [[-33], [1]])

    def test_one_state_of_now_is_enough(self):
        self.assertEqual(surely(*FREE, "0 1"), [[-33], [1]])
        self.assertEqual(surely(*WHEEL, SOUTH_EAST, "tick", "0 0"), [[-33], [1]])
        self.assertEqual(surely(*TOGETHER, "0 2"), [[-33], [1]])

    def test_those_of_now_that_are_there_do_not_count(self):
        # Ways from the states of now in which 0 is at its mark have been there; the others may stay off it.
        self.assertEqual(surely(*FREE, "goes 0 2", "0 1"), [[-33], [1]])
        self.assertEqual(surely(*FREE, [1, 1], "tick", "0 1"), [[0], [0]])

    def test_a_place_where_it_may_never_be(self):
        self.assertEqual(surely(*CHAIN, PULLED, "0 0"), [[-33], [1]])
        self.assertEqual(surely(*HELD, "0 0"), [[-33], [1]])


class NeverAtOdds(unittest.TestCase):
    def test_what_surely_comes_may_come_and_is_not_avoided(self):
        for plant in (*[(*WHEEL, state) for state in CIRCLE], (*WHEEL,), (*CHAIN, PULLED), (*FREE, [1, 0]),
                      (*ENDING, DOOMED), (*HELD,), (*TOGETHER, [1, 2, 1, 2])):
            for i, marks in enumerate(last(*plant, "state")[4:]):
                for p in range(2 * marks + 1):
                    must, avoid, may = [answer[0] for answer in tell(*plant, f"must {i} {p}", f"avoid {i} {p}",
                                                                     f"may {i} {p}")[-3:]]
                    self.assertIn(avoid, (0, 1))
                    if must >= 0:
                        self.assertTrue(avoid == 0 and 0 <= may <= must, (plant, i, p))
                    if avoid == 1:
                        self.assertEqual(must, -33)


if __name__ == "__main__":
    unittest.main()
