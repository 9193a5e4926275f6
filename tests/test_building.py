"""Quantities and rules: their numbers, their refusals in order, drop, and now behind each."""

import unittest

from tests.lines import LARGEST, last, states_now, tell

# Quantity 0 has two marks, 1 has one, 2 has none.
THREE = ("begin", "quantity 2", "quantity 1", "quantity 0")
# 0 has two marks; still 1 holds it at mark 0, so that a rate by mark 1 can never be.
HELD = ("begin", "quantity 2", "quantity 0", "rate 0 0 1", "still 1")


class Quantity(unittest.TestCase):
    def test_numbers(self):
        self.assertEqual(tell("begin", "quantity 0", "quantity 1", "quantity 1", "quantity 0"),
                         [[0], [0], [1], [2], [3]])

    def test_marks(self):
        for marks, states in ((0, 3), (1, 9), (2, 15), (3, 21)):
            self.assertEqual(tell("begin", f"quantity {marks}", "now")[1:], [[0], [states]])

    def test_too_many_marks(self):
        for marks in (4, 5, 255, LARGEST):
            self.assertEqual(tell("begin", f"quantity {marks}", "now")[1:], [[-22], [1]])

    def test_a_fifth_quantity(self):
        four = ["quantity 0"] * 4
        self.assertEqual(tell("begin", *four, "quantity 0", "now")[4:], [[3], [-28], [81]])

    def test_places_multiplied(self):
        for marks, number in (((2, 3), -28), ((3, 2), -28), ((3, 3), -28), ((2, 2), 1), ((3, 1), 1), ((1, 1, 1), 2),
                              ((1, 1, 2), -28), ((1, 3, 1), -28), ((2, 2, 1), -28), ((1, 1, 1, 1), -28),
                              ((1, 1, 1, 0), 3), ((0, 2, 2, 0), 3), ((0, 2, 0, 3), -28), ((2, 1, 0, 1), -28)):
            with self.subTest(marks=marks):
                self.assertEqual(last("begin", *[f"quantity {m}" for m in marks]), [number])

    def test_a_refused_one_is_not_there(self):
        self.assertEqual(tell("begin", "quantity 2", "quantity 3", "still 1", "quantity 2", "still 1", "now")[1:],
                         [[0], [-28], [-2], [1], [0], [75]])

    def test_wrong_marks_ahead_of_too_many(self):
        four = ["quantity 0"] * 4
        self.assertEqual(last("begin", *four, "quantity 4"), [-22])
        self.assertEqual(last("begin", "quantity 3", "quantity 2", "quantity 4"), [-22])

    def test_the_most_states(self):
        self.assertEqual(last("begin", "quantity 1", "quantity 1", "quantity 1", "quantity 0", "now"), [2187])

    def test_rules_stay_behind_one_more(self):
        self.assertEqual(tell("begin", "quantity 1", "still 0", "quantity 0", "now", "drop 0", "now")[3:],
                         [[1], [9], [0], [27]])


class Rules(unittest.TestCase):
    def test_numbers(self):
        told = tell(*THREE, "more 0 1", "less 0 1", "sum_of 0 1 2", "rate 0 0 2", "still 2", "meet 0 0 1 0")
        self.assertEqual(told[4:], [[0], [1], [2], [3], [4], [5]])

    def test_no_such_quantity(self):
        for rule in ("more 3 0", "more 0 3", "less 3 0", "less 0 3", "sum_of 3 0 1", "sum_of 0 3 1", "sum_of 0 1 3",
                     "rate 3 0 0", "rate 0 0 3", "still 3", "meet 3 0 0 0", "meet 0 0 3 0"):
            for number in ("3", str(LARGEST)):
                with self.subTest(rule=rule, number=number):
                    self.assertEqual(last(*THREE, rule.replace("3", number)), [-2])

    def test_no_such_quantity_is_named_first(self):
        for rule in ("more 3 3", "less 3 3", "sum_of 0 0 3", "sum_of 3 3 3", "rate 3 9 3", "rate 0 9 3",
                     "meet 3 9 3 9", "meet 0 9 3 9", "meet 3 9 0 9"):
            self.assertEqual(last(*THREE, rule), [-2], rule)

    def test_the_same_quantity(self):
        for rule in ("more 1 1", "less 1 1", "sum_of 0 0 1", "sum_of 0 1 0", "sum_of 1 0 0", "sum_of 0 0 0",
                     "rate 0 0 0", "meet 0 0 0 0", "meet 0 0 0 1"):
            self.assertEqual(last(*THREE, rule), [-22], rule)

    def test_no_such_mark(self):
        for rule in ("rate 0 2 1", "rate 1 1 0", "rate 2 0 0", f"rate 0 {LARGEST} 1", "meet 0 2 1 0", "meet 0 0 1 1",
                     "meet 1 1 0 0", "meet 1 0 0 2", "meet 2 0 0 0", "meet 0 0 2 0", f"meet 0 {LARGEST} 1 0",
                     f"meet 0 0 1 {LARGEST}"):
            self.assertEqual(last(*THREE, rule), [-22], rule)

    def test_the_last_mark_is_taken(self):
        for rule in ("rate 0 1 1", "rate 1 0 0", "meet 0 1 1 0", "meet 1 0 0 1"):
            self.assertEqual(last(*THREE, rule), [0], rule)

    def test_the_eighth_is_taken_the_ninth_is_not(self):
        for rule in ("more 0 1", "less 0 1", "sum_of 0 1 2", "rate 0 0 1", "still 0", "meet 0 0 1 0"):
            told = tell(*THREE, *[rule] * 9, "drop 8", "drop 7", rule)
            self.assertEqual(told[4:], [[number] for number in range(8)] + [[-28], [-2], [7], [7]], rule)

    def test_too_many_stands_behind_what_is_not_right(self):
        full = THREE + ("still 2",) * 8
        for rule in ("more 1 1", "less 1 1", "sum_of 0 1 0", "rate 0 0 0", "rate 0 2 1", "meet 0 0 0 1",
                     "meet 0 0 1 1"):
            self.assertEqual(last(*full, rule), [-22], rule)
        for rule in ("more 1 3", "less 1 3", "sum_of 0 1 3", "rate 0 0 3", "still 3", "meet 0 0 3 1"):
            self.assertEqual(last(*full, rule), [-2], rule)

    def test_no_state_would_fit(self):
        told = tell(*HELD, "now", "rate 0 1 1", "now", "drop 2", "drop 1", "now")
        self.assertEqual(told[3:], [[0], [1], [3], [-33], [3], [-2], [1], [15]])

    def test_each_kind_with_which_no_state_would_fit(self):
        # 0 between its marks is what the two rates leave: 1 rises, and 2 falls.
        apart = ("begin", "quantity 2", "quantity 1", "quantity 0", "rate 0 0 1", "rate 0 1 2", "less 1 2")
        for rule in ("more 1 2", "more 2 1", "still 1", "still 2", "rate 0 1 1", "rate 0 0 2"):
            with self.subTest(rule=rule):
                self.assertEqual(tell(*apart, "now", rule, "now", "drop 3")[7:], [[9], [-33], [9], [-2]])
        falls = ("begin", "quantity 2", "quantity 0", "quantity 1", "quantity 0", "rate 0 0 1")
        for rules, rule in ((("still 1", "rate 0 1 3"), "less 1 3"), (("rate 0 1 3", "less 1 3", "still 2"), "sum_of 1 2 3"),
                            (("still 1", "meet 0 0 2 0"), "meet 0 1 2 0")):
            with self.subTest(rule=rule):
                before = tell(*falls, *rules, "now")[-1]
                told = tell(*falls, *rules, rule, "now", f"drop {len(rules) + 1}")
                self.assertEqual(told[-3:], [[-33], before, [-2]])

    def test_too_many_stands_ahead_of_what_can_not_be(self):
        self.assertEqual(last(*HELD, *["still 1"] * 6, "rate 0 1 1"), [-28])
        self.assertEqual(last(*HELD, *["still 1"] * 5, "rate 0 1 1"), [-33])


class Drop(unittest.TestCase):
    def test_no_such_rule(self):
        for number in (0, 1, LARGEST):
            self.assertEqual(last("begin", "quantity 1", f"drop {number}"), [-2])
        for number in (2, 3, LARGEST):
            self.assertEqual(tell("begin", "quantity 1", "still 0", "still 0", f"drop {number}", "now")[-2:], [[-2], [3]])

    def test_how_many_there_are(self):
        self.assertEqual(tell("begin", "quantity 1", *["still 0"] * 3, "drop 1", "drop 1", "drop 0", "drop 0")[-4:],
                         [[2], [1], [0], [-2]])

    def test_those_behind_are_one_less(self):
        rules = ("begin", "quantity 0", "quantity 0", "quantity 0", "still 0", "still 1", "more 1 2")
        self.assertEqual(states_now(*rules, "drop 0"), [[0, 0, 0, 1, 0, 1], [0, 1, 0, 1, 0, 1], [0, 2, 0, 1, 0, 1]])
        self.assertEqual(states_now(*rules, "drop 1"), [[0, 1, 0, 0, 0, 0], [0, 1, 0, 1, 0, 1], [0, 1, 0, 2, 0, 2]])
        self.assertEqual(states_now(*rules, "drop 2"), [[0, 1, 0, 1, 0, 0], [0, 1, 0, 1, 0, 1], [0, 1, 0, 1, 0, 2]])
        self.assertEqual(states_now(*rules, "drop 0", "drop 1", "still 2"),
                         [[0, 0, 0, 1, 0, 1], [0, 1, 0, 1, 0, 1], [0, 2, 0, 1, 0, 1]])

    def test_a_number_is_given_again(self):
        self.assertEqual(tell("begin", "quantity 1", "still 0", "still 0", "drop 0", "still 0")[-2:], [[1], [1]])


class NowBehindEach(unittest.TestCase):
    def behind(self, given):
        return tell("begin", "quantity 1", "quantity 1", "still 0", [0, 1, 0, 0], given, "now")[-2:]

    def test_now_is_all_that_fit(self):
        for given, number, states in (("quantity 0", 2, 81), ("more 0 1", 1, 9), ("less 0 1", 1, 9),
                                      ("rate 0 0 1", 1, 9), ("still 1", 1, 9), ("meet 0 0 1 0", 1, 9),
                                      ("drop 0", 0, 81)):
            with self.subTest(given=given):
                self.assertEqual(self.behind(given), [[number], [states]])
        self.assertEqual(tell("begin", "quantity 0", "quantity 0", "quantity 0", [0, 1, 0, 1, 0, 1], "sum_of 0 1 2",
                              "now")[-2:], [[0], [13]])

    def test_now_stays_if_refused(self):
        for given, number in (("quantity 4", -22), ("quantity 2", -28), ("more 0 2", -2), ("more 0 0", -22),
                              ("rate 0 1 1", -22), ("drop 1", -2), ("still 2", -2), ("meet 0 1 1 0", -22)):
            with self.subTest(given=given):
                self.assertEqual(self.behind(given), [[number], [1]])
        self.assertEqual(states_now(*HELD, [1, 2, 0, 1], "rate 0 1 1"), [[1, 2, 0, 1]])
        self.assertEqual(states_now(*HELD, *["still 1"] * 6, [1, 2, 0, 1], "still 1"), [[1, 2, 0, 1]])


if __name__ == "__main__":
    unittest.main()
