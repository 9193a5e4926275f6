"""all, from, seen and goes; and now and one behind them."""

import unittest

from tests.lines import LARGEST, last, states_now, tell

# Quantity 0 has one mark and tells by it how 1 changes: nine states fit.
RATED = ("begin", "quantity 1", "quantity 0", "rate 0 0 1")


class All(unittest.TestCase):
    def test_all_that_fit(self):
        self.assertEqual(tell(*RATED, "all_states", "now")[-2:], [[9], [9]])

    def test_behind_narrowing(self):
        self.assertEqual(tell(*RATED, [1, 1, 0, 1], "all_states", "now")[-3:], [[1], [9], [9]])
        self.assertEqual(states_now(*RATED, "seen 0 2", "all_states"), states_now(*RATED))

    def test_above_a_hundred_and_twenty(self):
        self.assertEqual(last("begin", "quantity 1", "quantity 1", "quantity 1", "seen 0 0", "all_states"), [729])


class From(unittest.TestCase):
    def test_a_state(self):
        self.assertEqual(tell(*RATED, [2, 0, 0, 2], "now", "one 0", "one 1")[-4:], [[1], [1], [2, 2, 0, 0, 2], [-33]])

    def test_each_state_that_fits(self):
        for state in states_now(*RATED):
            self.assertEqual(tell(*RATED, state, "one 0")[-2:], [[1], [2] + state])

    def test_not_only_from_now(self):
        self.assertEqual(tell(*RATED, [2, 0, 0, 2], [0, 1, 0, 0], "one 0")[-2:], [[1], [2, 0, 1, 0, 0]])

    def test_no_state(self):
        for row in ([], [0], [0, 0], [0, 0, 0], [0, 0, 0, 0, 0], [0, 0, 0, 0, 0, 0], [3, 0, 0, 2], [2, 3, 0, 2],
                    [2, 0, 1, 2], [0, 0, 0, 3], [LARGEST, 0, 0, 0], [0, LARGEST, 0, 0], [0, 0, LARGEST, 0],
                    [0, 0, 0, LARGEST], [0] * 255, [0] * 254, [LARGEST] * 255):
            with self.subTest(row=row[:6]):
                self.assertEqual(tell(*RATED, row, "now")[-2:], [[-22], [9]])

    def test_places_and_directions_there_are(self):
        for marks in range(4):
            top = 2 * marks
            self.assertEqual(last("begin", f"quantity {marks}", [top, 2]), [1])
            self.assertEqual(last("begin", f"quantity {marks}", [top + 1, 2]), [-22])
            self.assertEqual(last("begin", f"quantity {marks}", [top, 3]), [-22])

    def test_each_quantity_has_its_own_places(self):
        self.assertEqual(last("begin", "quantity 1", "quantity 3", [2, 0, 6, 0]), [1])
        self.assertEqual(last("begin", "quantity 1", "quantity 3", [6, 0, 2, 0]), [-22])
        self.assertEqual(last("begin", "quantity 3", "quantity 1", [6, 0, 2, 0]), [1])
        self.assertEqual(last("begin", "quantity 3", "quantity 1", [2, 0, 6, 0]), [-22])

    def test_the_empty_list(self):
        self.assertEqual(tell("begin", [], "one 0"), [[0], [1], [0]])
        self.assertEqual(tell("begin", "quantity 0", [], "now"), [[0], [0], [-22], [3]])

    def test_without_quantities_all_else_is_no_state(self):
        for row in ([0], [0, 0], [0] * 255):
            self.assertEqual(tell("begin", row, "now"), [[0], [-22], [1]])

    def test_one_that_does_not_fit(self):
        for row in ([0, 0, 0, 1], [0, 0, 0, 2], [1, 0, 0, 0], [1, 1, 0, 2], [2, 2, 0, 0], [2, 2, 0, 1]):
            self.assertEqual(tell(*RATED, row, "now")[-2:], [[-33], [9]])

    def test_refused_now_is_as_before(self):
        self.assertEqual(states_now(*RATED, [2, 0, 0, 2], [0, 0, 0, 2]), [[2, 0, 0, 2]])
        self.assertEqual(states_now(*RATED, [2, 0, 0, 2], [0, 0, 0]), [[2, 0, 0, 2]])


class Seen(unittest.TestCase):
    def test_each_place(self):
        for place in range(3):
            held = [[place, d, 0, place] for d in range(3)]
            self.assertEqual(last(*RATED, f"seen 0 {place}"), [3])
            self.assertEqual(states_now(*RATED, f"seen 0 {place}"), held)

    def test_of_the_second_quantity(self):
        self.assertEqual(states_now("begin", "quantity 0", "quantity 2", "still 0", "seen 1 4"),
                         [[0, 1, 4, 0], [0, 1, 4, 1], [0, 1, 4, 2]])

    def test_seen_where_it_is_in_all(self):
        self.assertEqual(last(*RATED, "seen 1 0"), [9])

    def test_no_such_quantity(self):
        self.assertEqual(last("begin", "seen 0 0"), [-2])
        for given in ("seen 2 0", "seen 2 9", f"seen {LARGEST} 0", f"seen {LARGEST} {LARGEST}"):
            self.assertEqual(tell(*RATED, given, "now")[-2:], [[-2], [9]])

    def test_no_such_place(self):
        for given in ("seen 0 3", "seen 1 1", f"seen 0 {LARGEST}", f"seen 1 {LARGEST}"):
            self.assertEqual(tell(*RATED, given, "now")[-2:], [[-22], [9]])
        for marks in range(4):
            self.assertEqual(last("begin", f"quantity {marks}", f"seen 0 {2 * marks}"), [3])
            self.assertEqual(last("begin", f"quantity {marks}", f"seen 0 {2 * marks + 1}"), [-22])

    def test_in_no_state_of_now(self):
        self.assertEqual(tell(*RATED, "seen 0 2", "seen 0 1", "now")[-3:], [[3], [-33], [3]])
        self.assertEqual(tell(*RATED, "seen 0 2", "seen 0 3", "now")[-2:], [[-22], [3]])


class Goes(unittest.TestCase):
    def test_each_direction(self):
        for direction in range(3):
            self.assertEqual(last(*RATED, f"goes 0 {direction}"), [3])
            self.assertEqual(states_now(*RATED, f"goes 0 {direction}"), [[p, direction, 0, p] for p in range(3)])
            self.assertEqual(states_now(*RATED, f"goes 1 {direction}"),
                             [[direction, d, 0, direction] for d in range(3)])

    def test_no_such_quantity(self):
        self.assertEqual(last("begin", "goes 0 0"), [-2])
        for given in ("goes 2 0", "goes 2 3", f"goes {LARGEST} 0", f"goes {LARGEST} {LARGEST}"):
            self.assertEqual(tell(*RATED, given, "now")[-2:], [[-2], [9]])

    def test_no_such_direction(self):
        for given in ("goes 0 3", "goes 1 3", f"goes 0 {LARGEST}", "goes 1 4"):
            self.assertEqual(tell(*RATED, given, "now")[-2:], [[-22], [9]])

    def test_in_no_state_of_now(self):
        self.assertEqual(tell(*RATED, "seen 0 2", "goes 1 0", "now")[-2:], [[-33], [3]])
        self.assertEqual(tell(*RATED, "seen 0 2", "goes 1 3", "now")[-2:], [[-22], [3]])
        self.assertEqual(tell("begin", "quantity 1", "still 0", "goes 0 2", "now")[-2:], [[-33], [3]])


class OneBehindAnother(unittest.TestCase):
    def test_narrowing(self):
        told = tell("begin", "quantity 1", "quantity 1", "seen 1 2", "goes 0 2", "seen 0 0", "goes 1 1", "one 0")
        self.assertEqual(told[3:], [[27], [9], [3], [1], [2, 0, 2, 2, 1]])

    def test_a_refusal_between(self):
        told = tell("begin", "quantity 1", "quantity 1", "seen 1 2", "seen 1 1", "goes 0 2", "goes 0 0", "now")
        self.assertEqual(told[3:], [[27], [-33], [9], [-33], [9]])

    def test_order_stays(self):
        self.assertEqual(states_now("begin", "quantity 1", "quantity 0", "goes 1 2", "goes 0 0"),
                         [[0, 0, 0, 2], [1, 0, 0, 2], [2, 0, 0, 2]])


class NowAndOne(unittest.TestCase):
    def test_the_kth_from_nought_in_order(self):
        told = tell(*RATED, "one 0", "one 1", "one 2", "one 3", "one 8", "one 9", "now")
        self.assertEqual(told[4:], [[2, 0, 0, 0, 0], [2, 0, 1, 0, 0], [2, 0, 2, 0, 0], [2, 1, 0, 0, 1],
                                    [2, 2, 2, 0, 2], [-33], [9]])

    def test_no_kth(self):
        for number in (9, 10, 255, LARGEST):
            self.assertEqual(last(*RATED, f"one {number}"), [-33])
        for number in (1, 2, LARGEST):
            self.assertEqual(last("begin", f"one {number}"), [-33])

    def test_the_kth_of_now_not_of_all(self):
        self.assertEqual(tell(*RATED, "seen 0 1", "one 0", "one 2", "one 3")[-3:],
                         [[2, 1, 0, 0, 1], [2, 1, 2, 0, 1], [-33]])

    def test_asking_changes_nothing(self):
        self.assertEqual(tell(*RATED, "now", "one 3", "now", "one 3")[-4:],
                         [[9], [2, 1, 0, 0, 1], [9], [2, 1, 0, 0, 1]])

    def test_many_states(self):
        most = ("begin", "quantity 1", "quantity 1", "quantity 1", "quantity 0")
        self.assertEqual(last(*most, "one 2186"), [4, 2, 2, 2, 2, 2, 2, 0, 2])
        self.assertEqual(last(*most, "one 2187"), [-33])
        self.assertEqual(last(*most, "one 243"), [4, 0, 1, 0, 0, 0, 0, 0, 0])


if __name__ == "__main__":
    unittest.main()
