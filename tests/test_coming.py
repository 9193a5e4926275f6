"""ahead, later, ever, reach, may and path."""

import unittest

from tests.lines import last, states_now, tell
from tests.plants import (
    CHAIN, CIRCLE, DOOMED, EAST, ENDING, FREE, HELD, MIDDLE, NORTH, NORTH_EAST, NORTH_WEST, PULLED, SOUTH, SOUTH_EAST,
    SOUTH_WEST, TOGETHER, WEST, WHEEL,
)


def flat(*states):
    """States one behind another."""
    return [number for state in states for number in state]


class Ahead(unittest.TestCase):
    def test_behind_no_moments_it_is_now(self):
        self.assertEqual(last(*FREE, "ahead 0"), [9])
        self.assertEqual(last(*FREE, [0, 0], "ahead 0"), [1])
        self.assertEqual(last(*WHEEL, "seen 0 2", "ahead 0"), [3])

    def test_moment_by_moment(self):
        told = tell(*FREE, [0, 0], *[f"ahead {k}" for k in range(7)])
        self.assertEqual(told[3:], [[1], [2], [3], [5], [8], [9], [9]])

    def test_round_the_wheel(self):
        # From the east: to a corner, where it may stay, and on by one more state each moment.
        told = tell(*WHEEL, EAST, *[f"ahead {k}" for k in range(10)])
        self.assertEqual(told[8:], [[1], [1], [2], [3], [4], [5], [6], [7], [8], [8]])

    def test_those_behind_just_so_many_moments(self):
        # The state of now is left behind for good.
        self.assertEqual(tell(*CHAIN, PULLED, "ahead 0", "ahead 1", "ahead 2")[-3:], [[1], [2], [3]])

    def test_ways_that_end(self):
        self.assertEqual(tell(*ENDING, DOOMED, "ahead 0", "ahead 1", "ahead 2", "ahead 3", "ahead 40")[-5:],
                         [[1], [2], [0], [0], [0]])

    def test_nothing_follows_any_of_now(self):
        self.assertEqual(tell(*HELD, [1, 2, 0, 1], "ahead 0", "ahead 1", "ahead 40")[-3:], [[1], [0], [0]])

    def test_some_go_on(self):
        self.assertEqual(tell(*HELD, "ahead 0", "ahead 1", "ahead 40", "goes 0 1", "ahead 0", "ahead 1")[-6:],
                         [[3], [3], [3], [1], [1], [3]])

    def test_a_state_that_follows_itself_alone(self):
        self.assertEqual(tell(*WHEEL, MIDDLE, "ahead 0", "ahead 1", "ahead 40")[-3:], [[1], [1], [1]])

    def test_without_quantities(self):
        self.assertEqual(tell("begin", "ahead 0", "ahead 1", "ahead 40", "ahead 41"), [[0], [1], [1], [1], [-22]])

    def test_as_many_as_behind_so_many_ticks(self):
        for plant in ((*FREE, [0, 0]), (*WHEEL, SOUTH), (*CHAIN, PULLED), (*TOGETHER, "seen 0 1"), (*HELD, "goes 0 1")):
            for moments in range(1, 12):
                self.assertEqual(last(*plant, f"ahead {moments}"), last(*plant, *["tick"] * moments))


class Later(unittest.TestCase):
    def test_behind_no_moments_it_is_places(self):
        self.assertEqual(last(*FREE, "later 0 0"), [3, 0, 1, 2])
        self.assertEqual(last(*FREE, [2, 0], "later 0 0"), [1, 2])

    def test_moment_by_moment(self):
        told = tell(*WHEEL, EAST, *[f"later 0 {k}" for k in range(8)])
        self.assertEqual(told[8:], [[1, 2], [1, 2], [2, 1, 2], [3, 0, 1, 2], [3, 0, 1, 2], [3, 0, 1, 2], [3, 0, 1, 2],
                                    [3, 0, 1, 2]])
        told = tell(*WHEEL, EAST, *[f"later 1 {k}" for k in range(7)])
        self.assertEqual(told[8:], [[1, 1], [1, 0], [1, 0], [1, 0], [2, 0, 1], [3, 0, 1, 2], [3, 0, 1, 2]])

    def test_those_at_which_it_was_are_left_out(self):
        self.assertEqual(tell(*CHAIN, PULLED, *[f"later 0 {k}" for k in range(4)])[-4:],
                         [[1, 1], [1, 1], [1, 1], [1, 2]])
        self.assertEqual(tell(*CHAIN, PULLED, *[f"later 2 {k}" for k in range(4)])[-4:],
                         [[1, 1], [1, 2], [1, 2], [2, 1, 2]])

    def test_ways_that_end(self):
        self.assertEqual(tell(*ENDING, DOOMED, "later 1 0", "later 1 1", "later 1 2", "later 2 40")[-4:],
                         [[1, 1], [1, 2], [0], [0]])

    def test_each_quantity(self):
        told = tell("begin", "quantity 0", "quantity 3", [0, 1, 3, 2], "later 0 1", "later 1 1", "later 1 3",
                    "later 0 40")
        self.assertEqual(told[4:], [[1, 0], [1, 4], [4, 3, 4, 5, 6], [1, 0]])

    def test_forty_moments(self):
        self.assertEqual(last(*FREE, [0, 0], "later 0 40"), [3, 0, 1, 2])
        self.assertEqual(last(*FREE, "still 0", [0, 1], "later 0 40"), [1, 0])


class Ever(unittest.TestCase):
    def test_now_and_at_any_time(self):
        self.assertEqual(last(*FREE, [2, 2], "ever 0"), [3, 0, 1, 2])
        self.assertEqual(tell(*CHAIN, PULLED, "tick", "tick", "ever 0")[-1], [3, 0, 1, 2])
        self.assertEqual(tell(*ENDING, DOOMED, "ever 0", "ever 1", "ever 2")[-3:], [[1, 1], [2, 1, 2], [1, 0]])

    def test_where_it_stays(self):
        self.assertEqual(last(*FREE, "still 0", [2, 1], "ever 0"), [1, 2])
        self.assertEqual(last(*WHEEL, MIDDLE, "ever 0"), [1, 1])
        self.assertEqual(tell(*HELD, "ever 0", "ever 1")[-2:], [[1, 1], [1, 0]])

    def test_nothing_follows(self):
        self.assertEqual(last(*HELD, [1, 0, 0, 1], "ever 0"), [1, 1])

    def test_from_one_end_to_the_other(self):
        self.assertEqual(last("begin", "quantity 3", [0, 0], "ever 0"), [7, 0, 1, 2, 3, 4, 5, 6])


class Reach(unittest.TestCase):
    def test_round_the_wheel(self):
        for state in CIRCLE:
            self.assertEqual(last(*WHEEL, state, "reach"), [8])
        self.assertEqual(last(*WHEEL, MIDDLE, "reach"), [1])
        self.assertEqual(last(*WHEEL, "reach"), [9])

    def test_ways_that_end(self):
        self.assertEqual(last(*ENDING, DOOMED, "reach"), [3])
        self.assertEqual(last(*HELD, [1, 2, 0, 1], "reach"), [1])
        self.assertEqual(last(*HELD, [1, 1, 0, 1], "reach"), [3])

    def test_now_counts_though_it_never_comes_again(self):
        self.assertEqual(tell(*ENDING, DOOMED, "reach", "tick", "reach")[-3:], [[3], [2], [2]])

    def test_without_rules(self):
        for marks in range(4):
            self.assertEqual(last("begin", f"quantity {marks}", [0, 0], "reach"), [3 * (2 * marks + 1)])

    def test_without_quantities(self):
        self.assertEqual(last("begin", "reach"), [1])


class May(unittest.TestCase):
    def test_at_once(self):
        self.assertEqual(last(*FREE, [1, 0], "may 0 1"), [0])
        self.assertEqual(tell(*FREE, "may 0 0", "may 0 1", "may 0 2")[2:], [[0], [0], [0]])

    def test_how_few_moments(self):
        self.assertEqual(tell(*FREE, [0, 0], "may 0 0", "may 0 1", "may 0 2")[3:], [[0], [3], [4]])
        self.assertEqual(tell("begin", "quantity 3", [6, 2], *[f"may 0 {p}" for p in range(7)])[3:],
                         [[8], [7], [6], [5], [4], [3], [0]])

    def test_round_the_wheel(self):
        self.assertEqual(tell(*WHEEL, EAST, "may 0 2", "may 0 1", "may 0 0", "may 1 1", "may 1 0", "may 1 2")[8:],
                         [[0], [2], [3], [0], [1], [5]])

    def test_from_the_nearest_state_of_now(self):
        self.assertEqual(tell(*WHEEL, "seen 0 2", "may 0 1", "may 0 0", "may 1 0")[8:], [[1], [2], [0]])

    def test_never(self):
        self.assertEqual(tell(*FREE, "still 0", [1, 1], "may 0 0", "may 0 1", "may 0 2")[-3:], [[-33], [0], [-33]])
        self.assertEqual(tell(*WHEEL, MIDDLE, "may 0 0", "may 1 2")[-2:], [[-33], [-33]])
        self.assertEqual(last(*HELD, "may 0 0"), [-33])

    def test_ways_that_end(self):
        self.assertEqual(tell(*ENDING, DOOMED, "may 1 1", "may 1 2", "may 1 0", "may 0 2")[-4:],
                         [[0], [1], [-33], [-33]])


class Path(unittest.TestCase):
    def test_at_once_the_first_state_of_now(self):
        self.assertEqual(last(*FREE, "path 0 1"), [0, 1, 0])
        self.assertEqual(last(*FREE, "goes 0 2", "path 0 1"), [0, 1, 2])
        self.assertEqual(last(*WHEEL, "path 1 2"), [0] + NORTH_WEST)

    def test_states_one_behind_another(self):
        self.assertEqual(last(*WHEEL, EAST, "path 0 2"), [0] + EAST)
        self.assertEqual(last(*WHEEL, EAST, "path 0 0"), [3] + flat(EAST, SOUTH_EAST, SOUTH, SOUTH_WEST))
        self.assertEqual(last(*WHEEL, WEST, "path 1 0"),
                         [5] + flat(WEST, NORTH_WEST, NORTH, NORTH_EAST, EAST, SOUTH_EAST))

    def test_the_lesser_state_at_the_end(self):
        self.assertEqual(last(*FREE, [0, 1], "path 0 2"), [3, 0, 1, 0, 2, 1, 2, 2, 1])
        self.assertEqual(last("begin", "quantity 2", "quantity 0", [2, 0, 0, 1], "path 0 1"),
                         [1, 2, 0, 0, 1, 1, 0, 0, 0])

    def test_the_lesser_state_at_the_beginning(self):
        # Of the nine states of now those in which 0 rises come to its mark a moment on, of which there are three.
        free = ("begin", "quantity 1", "quantity 0", "seen 0 0")
        self.assertEqual(tell(*free, "now", "path 0 1")[-2:], [[9], [1, 0, 2, 0, 0, 1, 1, 0, 0]])

    def test_from_the_state_of_now_that_comes_there_first(self):
        told = tell("begin", "quantity 2", "quantity 0", "quantity 0", "rate 0 0 1", "rate 0 1 2", "seen 0 2",
                    "path 0 3", "path 0 1")
        self.assertEqual(told[-2:], [[1, 2, 2, 0, 2, 0, 0, 3, 1, 0, 2, 0, 1], [1, 2, 0, 0, 2, 0, 0, 1, 0, 0, 1, 0, 0]])

    def test_of_several_states_of_now_round_the_wheel(self):
        self.assertEqual(last(*WHEEL, SOUTH_WEST, "path 1 1"), [1] + flat(SOUTH_WEST, WEST))
        three = (*WHEEL, NORTH_WEST, "tick", "tick")
        self.assertEqual(states_now(*three), [NORTH_WEST, NORTH, NORTH_EAST])
        self.assertEqual(last(*three, "path 1 1"), [1] + flat(NORTH_EAST, EAST))
        self.assertEqual(last(*three, "path 0 1"), [0] + NORTH)
        # Of the three states of now in which 1 is at its mark, the least.
        self.assertEqual(last(*WHEEL, "path 1 1"), [0] + WEST)

    def test_a_lesser_state_on_the_way_goes_before_a_lesser_end(self):
        # 2 is the sum of 0 and 1, and 0 tells how fast it changes: it rises all the time. If 1 falls a moment on, 0
        # rises to the end; if 1 is steady then, 0 may be steady at the end, a lesser state, but the way differs ahead.
        rising = ("begin", "quantity 3", "quantity 0", "quantity 0", "sum_of 0 1 2", "rate 0 0 2")
        self.assertEqual(last(*rising, [3, 2, 0, 1, 0, 2], "path 0 5"),
                         [2, 3, 2, 0, 1, 0, 2, 4, 2, 0, 0, 0, 2, 5, 2, 0, 0, 0, 2])

    def test_the_first_difference_counts_not_the_next(self):
        # A moment on 1 may fall or be steady. Where it falls the state is lesser, but only behind the other one the
        # state of the moment after it is the least.
        turning = ("begin", "quantity 1", "quantity 0", "quantity 0", "quantity 0", "sum_of 0 3 1", "less 2 3")
        self.assertEqual(last(*turning, [2, 2, 0, 1, 0, 2, 0, 0], "path 0 1"),
                         [3] + flat([2, 2, 0, 1, 0, 2, 0, 0], [2, 1, 0, 0, 0, 2, 0, 0], [2, 0, 0, 0, 0, 1, 0, 1],
                                    [1, 0, 0, 0, 0, 0, 0, 2]))

    def test_never(self):
        self.assertEqual(last(*WHEEL, MIDDLE, "path 0 0"), [-33])
        self.assertEqual(last(*ENDING, DOOMED, "path 1 0"), [-33])
        self.assertEqual(last(*HELD, "path 0 2"), [-33])

    def test_as_many_moments_as_may_tells_and_one_state_more(self):
        for plant in ((*FREE, [0, 0]), (*FREE, [2, 2]), (*WHEEL, SOUTH), (*CHAIN, PULLED), (*TOGETHER, "goes 0 0"),
                      (*ENDING, DOOMED), ("begin", "quantity 3", "quantity 1", "rate 0 1 1", "still 0", [1, 1, 2, 0])):
            told = last(*plant, "state")
            for i, marks in enumerate(told[4:]):
                for p in range(2 * marks + 1):
                    way, moments = last(*plant, f"path {i} {p}"), last(*plant, f"may {i} {p}")
                    self.assertEqual(way[:1], moments)
                    if way != [-33]:
                        self.assertEqual(len(way), 1 + 2 * told[0] * (moments[0] + 1))

    def test_each_state_follows_the_one_before(self):
        way = last("begin", "quantity 3", [6, 2], "path 0 0")
        states = [way[at:at + 2] for at in range(1, len(way), 2)]
        self.assertEqual((way[0], len(states)), (8, 9))
        for state, later in zip(states, states[1:]):
            self.assertIn(later, states_now("begin", "quantity 3", state, "tick"))


if __name__ == "__main__":
    unittest.main()
