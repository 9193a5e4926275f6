"""Which states fit with each kind of rule, looked at one by one."""

import unittest

from tests.lines import last, states_now


def directions(states):
    """The directions of states, a text each."""
    return ["".join(str(number) for number in state[1::2]) for state in states]


class NoRules(unittest.TestCase):
    def test_all_states_in_order(self):
        self.assertEqual(states_now("begin", "quantity 1"),
                         [[0, 0], [0, 1], [0, 2], [1, 0], [1, 1], [1, 2], [2, 0], [2, 1], [2, 2]])

    def test_the_first_quantity_in_which_two_differ(self):
        states = states_now("begin", "quantity 0", "quantity 1")
        self.assertEqual(states, [[0, d, p, e] for d in range(3) for p in range(3) for e in range(3)])
        states = states_now("begin", "quantity 1", "quantity 0")
        self.assertEqual(states, [[p, d, 0, e] for p in range(3) for d in range(3) for e in range(3)])


class Directions(unittest.TestCase):
    two = ("begin", "quantity 0", "quantity 0")
    three = ("begin", "quantity 0", "quantity 0", "quantity 0")

    def test_more(self):
        for rule in ("more 0 1", "more 1 0"):
            self.assertEqual(states_now(*self.two, rule), [[0, 0, 0, 0], [0, 1, 0, 1], [0, 2, 0, 2]])

    def test_less(self):
        for rule in ("less 0 1", "less 1 0"):
            self.assertEqual(states_now(*self.two, rule), [[0, 0, 0, 2], [0, 1, 0, 1], [0, 2, 0, 0]])

    def test_still(self):
        self.assertEqual(states_now(*self.two, "still 0"), [[0, 1, 0, 0], [0, 1, 0, 1], [0, 1, 0, 2]])
        self.assertEqual(states_now(*self.two, "still 1"), [[0, 0, 0, 1], [0, 1, 0, 1], [0, 2, 0, 1]])
        self.assertEqual(states_now("begin", "quantity 1", "still 0"), [[0, 1], [1, 1], [2, 1]])

    def test_sum(self):
        held = ["000", "010", "020", "021", "022", "100", "111", "122", "200", "201", "202", "212", "222"]
        self.assertEqual(directions(states_now(*self.three, "sum_of 0 1 2")), held)
        self.assertEqual(directions(states_now(*self.three, "sum_of 1 0 2")), held)

    def test_sum_told_first(self):
        held = ["000", "001", "002", "010", "020", "102", "111", "120", "202", "212", "220", "221", "222"]
        self.assertEqual(directions(states_now(*self.three, "sum_of 1 2 0")), held)
        self.assertEqual(directions(states_now(*self.three, "sum_of 2 1 0")), held)

    def test_sum_told_between(self):
        held = ["000", "001", "002", "012", "022", "100", "111", "122", "200", "210", "220", "221", "222"]
        self.assertEqual(directions(states_now(*self.three, "sum_of 0 2 1")), held)
        self.assertEqual(directions(states_now(*self.three, "sum_of 2 0 1")), held)

    def test_places_do_not_matter_to_them(self):
        for rule, count in (("more 0 1", 27), ("less 0 1", 27), ("still 0", 27), ("still 1", 27)):
            self.assertEqual(last("begin", "quantity 1", "quantity 1", rule, "now"), [count])
        self.assertEqual(last("begin", "quantity 1", "quantity 0", "quantity 1", "sum_of 0 1 2", "now"), [117])


class Marks(unittest.TestCase):
    def test_rate(self):
        held = [[p, d, 0, p] for p in range(3) for d in range(3)]
        self.assertEqual(states_now("begin", "quantity 1", "quantity 0", "rate 0 0 1"), held)

    def test_rate_by_the_second_quantity(self):
        held = [[0, p, p, d] for p in range(3) for d in range(3)]
        self.assertEqual(states_now("begin", "quantity 0", "quantity 1", "rate 1 0 0"), held)

    def test_rate_by_each_mark(self):
        for mark, rates in ((0, [0, 1, 2, 2, 2, 2, 2]), (1, [0, 0, 0, 1, 2, 2, 2]), (2, [0, 0, 0, 0, 0, 1, 2])):
            held = [[p, d, 0, rates[p]] for p in range(7) for d in range(3)]
            self.assertEqual(states_now("begin", "quantity 3", "quantity 0", f"rate 0 {mark} 1"), held)

    def test_meet(self):
        held = [[p, d, p, e] for p in range(3) for d in range(3) for e in range(3)]
        self.assertEqual(states_now("begin", "quantity 1", "quantity 1", "meet 0 0 1 0"), held)

    def test_meet_of_each_mark(self):
        # By the mark of quantity 1: the places of quantity 1 that are met by place 0, 1, 2 of quantity 0.
        for mark, met in ((0, [[0], [1], [2, 3, 4]]), (1, [[0, 1, 2], [3], [4]])):
            held = [[p, d, q, e] for p in range(3) for d in range(3) for q in met[p] for e in range(3)]
            self.assertEqual(states_now("begin", "quantity 1", "quantity 2", f"meet 0 0 1 {mark}"), held)
            self.assertEqual(states_now("begin", "quantity 1", "quantity 2", f"meet 1 {mark} 0 0"), held)

    def test_meet_of_second_marks(self):
        side = [0, 0, 0, 1, 2]
        both = [(p, q) for p in range(5) for q in range(5) if side[p] == side[q]]
        many = last("begin", "quantity 2", "quantity 2", "meet 0 1 1 1", "now")
        self.assertEqual(many, [len(both) * 9])
        self.assertEqual(many, [99])


class SeveralRules(unittest.TestCase):
    def test_all_of_them_hold(self):
        self.assertEqual(states_now("begin", "quantity 0", "quantity 0", "more 0 1", "less 0 1"), [[0, 1, 0, 1]])
        self.assertEqual(states_now("begin", "quantity 2", "quantity 0", "quantity 0", "rate 0 0 1", "rate 0 1 2",
                                    "less 1 2"),
                         [[2, 0, 0, 2, 0, 0], [2, 1, 0, 2, 0, 0], [2, 2, 0, 2, 0, 0]])

    def test_the_same_rule_twice(self):
        self.assertEqual(states_now("begin", "quantity 0", "still 0", "still 0"), [[0, 1]])

    def test_four_quantities(self):
        self.assertEqual(states_now("begin", *["quantity 0"] * 4, "sum_of 0 1 3", "still 0", "more 1 2", "less 3 2"),
                         [[0, 1, 0, 1, 0, 1, 0, 1]])


if __name__ == "__main__":
    unittest.main()
