"""places and state."""

import unittest

from tests.lines import LARGEST, last, tell
from tests.plants import CHAIN, FITTING_119, FITTING_121, FREE, HELD, PULLED, WEST, WHEEL


class Places(unittest.TestCase):
    def test_all_places(self):
        for marks in range(4):
            places = list(range(2 * marks + 1))
            self.assertEqual(last("begin", f"quantity {marks}", "places 0"), [len(places)] + places)

    def test_each_quantity(self):
        self.assertEqual(tell("begin", "quantity 2", "quantity 0", "quantity 1", "seen 0 3", "places 0", "places 1",
                              "places 2")[-3:], [[1, 3], [1, 0], [3, 0, 1, 2]])

    def test_places_of_now_not_of_all(self):
        self.assertEqual(tell(*FREE, [2, 0], "places 0", "tick", "places 0", "tick", "places 0")[3:],
                         [[1, 2], [4], [2, 1, 2], [8], [3, 0, 1, 2]])
        self.assertEqual(tell(*WHEEL, "goes 0 1", "places 0", "places 1", "goes 1 2", "places 0")[-4:],
                         [[3, 0, 1, 2], [1, 1], [1], [1, 0]])

    def test_each_place_once(self):
        self.assertEqual(last(*HELD, "places 0"), [1, 1])
        self.assertEqual(last(*HELD, "places 1"), [1, 0])

    def test_a_place_between_is_left_out(self):
        # 0 is below both its marks or above both.
        apart = ("begin", "quantity 2", "quantity 1", "meet 0 0 1 0", "meet 0 1 1 0")
        self.assertEqual(tell(*apart, "places 0", "places 1")[-2:], [[2, 0, 4], [2, 0, 2]])

    def test_not_from_the_first_place_on(self):
        self.assertEqual(tell("begin", "quantity 3", [2, 2], "tick", "tick", "places 0")[-1], [3, 2, 3, 4])
        self.assertEqual(last("begin", "quantity 2", "quantity 1", "rate 0 0 1", "goes 1 2", "places 0"), [3, 2, 3, 4])

    def test_more_states_than_a_hundred_and_twenty(self):
        self.assertEqual(last(*FITTING_121, "places 0"), [5, 0, 1, 2, 3, 4])
        most = ("begin", "quantity 1", "quantity 1", "quantity 1", "quantity 0")
        self.assertEqual(last(*most, "places 2"), [3, 0, 1, 2])

    def test_no_such_quantity(self):
        for number in (0, 1, LARGEST):
            self.assertEqual(last("begin", f"places {number}"), [-2])
        for number in (3, 4, LARGEST):
            self.assertEqual(last(*WHEEL, f"places {number}"), [-2])
        self.assertEqual(last("begin", "quantity 1", "quantity 1", "quantity 1", "places 3"), [-2])


class State(unittest.TestCase):
    def test_without_quantities(self):
        self.assertEqual(last("begin", "state"), [0, 0, 1, 1])

    def test_marks_of_each_quantity(self):
        self.assertEqual(last("begin", "quantity 3", "quantity 0", "quantity 1", "quantity 0", "state"),
                         [4, 0, 1701, 1701, 3, 0, 1, 0])
        self.assertEqual(last("begin", "quantity 2", "state"), [1, 0, 15, 15, 2])

    def test_each_count_by_itself(self):
        self.assertEqual(last(*WHEEL, "state"), [3, 3, 9, 9, 1, 1, 0])
        self.assertEqual(last(*WHEEL, "seen 0 2", "state"), [3, 3, 9, 3, 1, 1, 0])
        self.assertEqual(last(*WHEEL, WEST, "state"), [3, 3, 9, 1, 1, 1, 0])
        self.assertEqual(last(*CHAIN, PULLED, "tick", "state"), [3, 2, 81, 2, 1, 1, 1])

    def test_behind_drop_and_more_rules(self):
        told = tell("begin", "quantity 1", "still 0", "state", "still 0", "state", [2, 1], "drop 0", "state", "drop 0",
                    "state", "begin", "state")
        self.assertEqual([answer for answer in told if len(answer) > 1],
                         [[1, 1, 3, 3, 1], [1, 2, 3, 3, 1], [1, 1, 3, 3, 1], [1, 0, 9, 9, 1], [0, 0, 1, 1]])

    def test_behind_what_is_refused(self):
        for refused in ("quantity 4", "more 0 0", "drop 3", "still 3", "seen 0 3", "tick", "must 0 3", "one 9"):
            self.assertEqual(last(*HELD, [1, 2, 0, 1], refused, "state"), [2, 2, 3, 1, 1, 0])

    def test_about_a_hundred_and_twenty_states(self):
        self.assertEqual(last(*FITTING_119, "state"), [4, 2, 119, 119, 3, 0, 0, 0])
        self.assertEqual(last(*FITTING_121, "goes 2 1", "state"), [4, 4, 121, 33, 2, 2, 0, 0])


if __name__ == "__main__":
    unittest.main()
