"""tick: what follows, its refusals, and now in order behind it."""

import unittest

from signplant.pairs import later_places
from tests.lines import states_now, tell
from tests.plants import FITTING_119, FITTING_121, HELD


def behind(marks, place, direction):
    """All states behind a moment, of one quantity without rules."""
    return states_now("begin", f"quantity {marks}", [place, direction], "tick")


class WhatFollows(unittest.TestCase):
    def test_one_mark(self):
        for pair, later in (
            ((0, 0), [[0, 0], [0, 1]]),
            ((0, 1), [[0, 0], [0, 1], [0, 2]]),
            ((0, 2), [[0, 1], [0, 2], [1, 1], [1, 2]]),
            ((1, 0), [[0, 0], [0, 1]]),
            ((1, 1), [[1, 0], [1, 1], [1, 2]]),
            ((1, 2), [[2, 1], [2, 2]]),
            ((2, 0), [[1, 0], [1, 1], [2, 0], [2, 1]]),
            ((2, 1), [[2, 0], [2, 1], [2, 2]]),
            ((2, 2), [[2, 1], [2, 2]]),
        ):
            with self.subTest(pair=pair):
                self.assertEqual(behind(1, *pair), later)

    def test_no_marks(self):
        self.assertEqual(behind(0, 0, 0), [[0, 0], [0, 1]])
        self.assertEqual(behind(0, 0, 1), [[0, 0], [0, 1], [0, 2]])
        self.assertEqual(behind(0, 0, 2), [[0, 1], [0, 2]])

    def test_between_two_marks(self):
        self.assertEqual(behind(2, 2, 0), [[1, 0], [1, 1], [2, 0], [2, 1]])
        self.assertEqual(behind(2, 2, 1), [[2, 0], [2, 1], [2, 2]])
        self.assertEqual(behind(2, 2, 2), [[2, 1], [2, 2], [3, 1], [3, 2]])

    def test_each_mark(self):
        for place in (1, 3, 5):
            self.assertEqual(behind(3, place, 0), [[place - 1, 0], [place - 1, 1]])
            self.assertEqual(behind(3, place, 1), [[place, 0], [place, 1], [place, 2]])
            self.assertEqual(behind(3, place, 2), [[place + 1, 1], [place + 1, 2]])

    def test_first_and_last_places(self):
        for marks in (1, 2, 3):
            top = 2 * marks
            self.assertEqual(behind(marks, 0, 0), [[0, 0], [0, 1]])
            self.assertEqual(behind(marks, 0, 2), [[0, 1], [0, 2], [1, 1], [1, 2]])
            self.assertEqual(behind(marks, top, 2), [[top, 1], [top, 2]])
            self.assertEqual(behind(marks, top, 0), [[top - 1, 0], [top - 1, 1], [top, 0], [top, 1]])

    def test_places_that_are_there_alone(self):
        for marks in range(4):
            top = 2 * marks
            self.assertEqual(later_places(marks, 0, 0), [0])
            self.assertEqual(later_places(marks, top, 2), [top])
            for place in range(0, top, 2):
                self.assertEqual(later_places(marks, place, 2), [place, place + 1])
                self.assertEqual(sorted(later_places(marks, place + 2, 0)), [place + 1, place + 2])

    def test_each_quantity_by_itself(self):
        self.assertEqual(states_now("begin", "quantity 1", "quantity 0", [1, 2, 0, 0], "tick"),
                         [[2, 1, 0, 0], [2, 1, 0, 1], [2, 2, 0, 0], [2, 2, 0, 1]])
        self.assertEqual(states_now("begin", "quantity 0", "quantity 1", [0, 0, 2, 2], "tick"),
                         [[0, 0, 2, 1], [0, 0, 2, 2], [0, 1, 2, 1], [0, 1, 2, 2]])

    def test_each_quantity_has_its_own_last_place(self):
        self.assertEqual(states_now("begin", "quantity 0", "quantity 2", "still 0", [0, 1, 2, 2], "tick"),
                         [[0, 1, 2, 1], [0, 1, 2, 2], [0, 1, 3, 1], [0, 1, 3, 2]])

    def test_what_follows_fits(self):
        self.assertEqual(states_now("begin", "quantity 1", "quantity 0", "rate 0 0 1", [0, 2, 0, 0], "tick"),
                         [[0, 1, 0, 0], [0, 2, 0, 0], [1, 1, 0, 1], [1, 2, 0, 1]])
        self.assertEqual(states_now("begin", "quantity 1", "still 0", [1, 1], "tick"), [[1, 1]])

    def test_a_direction_does_not_turn_at_once(self):
        self.assertEqual(states_now("begin", "quantity 0", "quantity 0", "less 0 1", [0, 0, 0, 2], "tick"),
                         [[0, 0, 0, 2], [0, 1, 0, 1]])


class Now(unittest.TestCase):
    def test_from_several_states_in_order_and_each_once(self):
        told = tell("begin", "quantity 1", "goes 0 2", "tick")
        self.assertEqual(told[2:], [[3], [6]])
        self.assertEqual(states_now("begin", "quantity 1", "goes 0 2", "tick"),
                         [[0, 1], [0, 2], [1, 1], [1, 2], [2, 1], [2, 2]])

    def test_one_moment_behind_another(self):
        told = tell("begin", "quantity 1", [0, 0], "tick", "tick", "tick", "tick", "tick")
        self.assertEqual(told[2:], [[1], [2], [3], [5], [8], [9]])
        self.assertEqual(states_now("begin", "quantity 1", [0, 0], "tick", "tick", "tick"),
                         [[0, 0], [0, 1], [0, 2], [1, 1], [1, 2]])

    def test_narrowed_behind_a_moment(self):
        self.assertEqual(tell("begin", "quantity 1", [0, 2], "tick", "seen 0 1", "goes 0 1", "tick", "one 0")[-5:],
                         [[4], [2], [1], [3], [1, 1, 0]])

    def test_without_quantities(self):
        self.assertEqual(tell("begin", "tick", "tick", "one 0"), [[0], [1], [1], [0]])

    def test_what_nothing_follows_is_gone(self):
        self.assertEqual(tell(*HELD, "now", "goes 0 1", "tick", "tick")[-4:], [[3], [1], [3], [3]])
        self.assertEqual(states_now(*HELD, "tick"), [[1, 0, 0, 1], [1, 1, 0, 1], [1, 2, 0, 1]])


class Refusals(unittest.TestCase):
    def test_nothing_follows_any_of_now(self):
        for state in ([1, 0, 0, 1], [1, 2, 0, 1]):
            self.assertEqual(tell(*HELD, state, "tick", "now", "one 0")[-3:], [[-33], [1], [2] + state])

    def test_behind_it_all_goes_on(self):
        self.assertEqual(tell(*HELD, [1, 2, 0, 1], "tick", "tick", "all_states", "tick")[-4:],
                         [[-33], [-33], [3], [3]])

    def test_a_hundred_and_twenty_at_most(self):
        self.assertEqual(tell(*FITTING_119, "now", "tick")[-2:], [[119], [119]])
        self.assertEqual(tell(*FITTING_121, "now", "tick", "now")[-3:], [[121], [-28], [121]])

    def test_states_that_fit_count_not_those_of_now(self):
        still = [0, 1, 0, 1, 0, 1, 0, 1]
        self.assertEqual(tell(*FITTING_121, still, "tick", "now", "one 0")[-4:], [[1], [-28], [1], [4] + still])
        self.assertEqual(tell("begin", "quantity 1", "quantity 1", "quantity 1", [0, 1, 0, 1, 0, 1], "tick")[-1], [-28])

    def test_taken_again_behind_one_more_rule(self):
        told = tell(*FITTING_121, "tick", "still 3", [0, 1, 0, 1, 0, 1, 0, 1], "tick", "drop 4", "tick")
        self.assertEqual(told[-6], [-28])
        self.assertGreater(told[-3][0], 0)
        self.assertEqual(told[-1], [-28])

    def test_too_many_stands_ahead_of_nothing_follows(self):
        # 0 is held at its mark while it rises: nothing follows, but 243 states fit.
        many = ("begin", "quantity 1", "quantity 1", "quantity 0", "quantity 1", "rate 0 0 2", "still 2")
        self.assertEqual(tell(*many, "now", [1, 2, 0, 0, 0, 1, 0, 0], "tick")[-3:], [[243], [1], [-28]])
        self.assertEqual(tell(*many, "still 1", "still 3", [1, 2, 0, 1, 0, 1, 0, 1], "tick")[-2:], [[1], [-33]])


if __name__ == "__main__":
    unittest.main()
