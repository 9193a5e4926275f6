"""How a list of calls is read, how answers are told, and -11 ahead of a begin."""

import unittest

from signplant.futures import answers
from tests.lines import LARGEST, NUMBERS, SIZES, last, line, split, tell


def any_call(number, value):
    """A call by its number, every number that it is given being `value`."""
    if SIZES[number] is None:
        return [number, 2, value, value]
    return [number] + [value] * SIZES[number]


class Reading(unittest.TestCase):
    def test_empty_list(self):
        self.assertEqual(answers([]), [])

    def test_numbers_of_the_calls_stand_as_told(self):
        self.assertEqual(sorted(NUMBERS.values()), list(range(31)))
        self.assertEqual(len(SIZES), 31)

    def test_begin_answers_one_number(self):
        self.assertEqual(answers([0]), [1, 0])

    def test_count_stands_ahead_of_each_answer(self):
        told = answers([0, 1, 1, 10, 2, 2, 0, 15, 0, 15, 1])
        self.assertEqual(told, [1, 0, 1, 0, 1, 1, 3, 1, 2, 0, 1, -33])

    def test_each_call_on_the_ways_by_its_numbers(self):
        # One quantity with one mark, below it and steady.
        for asked, told in (
            ([16, 0], [2, 1, 0]), ([17, 1], [1, 3]), ([18, 0, 2], [3, 2, 0, 1]), ([19, 0], [4, 3, 0, 1, 2]),
            ([20], [1, 9]), ([21, 0, 2], [1, 3]), ([22, 0, 2], [9, 3, 0, 1, 0, 2, 1, 2, 2, 1]), ([23, 0, 0], [1, 0]),
            ([24, 0, 1], [1, 1]), ([25, 0, 1, 0, 1], [1, 2]), ([26, 0, 1, 0, 2], [1, 2]), ([27], [1, 0]),
            ([28], [1, -33]), ([29], [1, 2]), ([30], [5, 1, 0, 9, 1, 1]),
        ):
            with self.subTest(asked=asked):
                self.assertEqual(answers([0, 1, 1, 10, 2, 0, 1] + asked + [14]), [1, 0, 1, 0, 1, 1] + told + [1, 1])

    def test_each_call_ahead_of_begin(self):
        for number in range(1, 31):
            for value in (0, 1, LARGEST):
                with self.subTest(number=number, value=value):
                    told = answers(any_call(number, value) + [0, 14])
                    self.assertEqual(told, [1, -11, 1, 0, 1, 1])

    def test_numbers_like_calls_are_not_read_as_calls(self):
        for number in range(1, 31):
            told = answers(any_call(number, 0) + any_call(number, 13))
            self.assertEqual(told, [1, -11, 1, -11])

    def test_nothing_is_kept_from_ahead_of_begin(self):
        self.assertEqual(tell("quantity 1", "still 0", "begin", "now"), [[-11], [-11], [0], [1]])

    def test_rows_of_every_length_ahead_of_begin(self):
        for length in (0, 1, 2, 3, 254, 255):
            told = answers([10, length] + [0] * length + [0, 14])
            self.assertEqual(told, [1, -11, 1, 0, 1, 1])

    def test_rows_behind_begin(self):
        for length in (1, 2, 3, 254, 255):
            told = answers([0, 10, length] + [0] * length + [14])
            self.assertEqual(told, [1, 0, 1, -22, 1, 1])

    def test_thirty_calls(self):
        told = tell("begin", "quantity 1", *["one 8"] * 28)
        self.assertEqual(told, [[0], [0]] + [[1, 2, 2]] * 28)

    def test_thirty_calls_with_the_longest_rows(self):
        rows = ([10, 255] + [LARGEST] * 255) * 29
        self.assertEqual(answers([0] + rows), [1, 0] + [1, -22] * 29)

    def test_what_is_handed_in_stays_and_a_second_time_is_as_the_first(self):
        calls = line("begin", "quantity 1", "quantity 0", "rate 0 0 1", [0, 2, 0, 0], "tick", "one 0", "drop 0",
                     "seen 0 1", "goes 1 2", "tick", "now", "one 1", "places 0", "ahead 3", "later 0 3", "ever 0",
                     "reach", "may 0 0", "path 0 0", "must 0 0", "avoid 0 0", "both 0 0 1 0", "only 0 0 1 0", "rest",
                     "stuck", "round_way", "state")
        kept = list(calls)
        first = answers(calls)
        self.assertEqual(calls, kept)
        first_kept = list(first)
        self.assertEqual(answers(calls), first_kept)
        self.assertEqual(calls, kept)

    def test_a_state_handed_in_is_not_shared(self):
        calls = line("begin", "quantity 1", [1, 2], "one 0")
        told = answers(calls)
        told[-1] = 77
        self.assertEqual(calls, line("begin", "quantity 1", [1, 2], "one 0"))
        self.assertEqual(answers(calls)[-3:], [1, 1, 2])
        calls = line("begin", "quantity 1", [1, 2], "path 0 1", "state")
        told = answers(calls)
        self.assertEqual(told, [1, 0, 1, 0, 1, 1, 3, 0, 1, 2, 5, 1, 0, 9, 1, 1])
        self.assertEqual(calls, line("begin", "quantity 1", [1, 2], "path 0 1", "state"))

    def test_answers_are_plain_whole_numbers(self):
        told = answers(line("begin", "quantity 1", "more 0 1", "still 0", "all_states", [0, 1], "tick", "one 0",
                            "drop 0", [0, 1], "places 0", "ahead 2", "later 0 2", "ever 0", "reach", "may 0 2",
                            "path 0 2", "must 0 2", "avoid 0 2", "avoid 0 0", "both 0 0 0 1", "only 0 1 0 2", "rest",
                            "stuck", "round_way", "state"))
        self.assertIs(type(told), list)
        self.assertEqual({type(number) for number in told}, {int})

    def test_one_object_from_the_beginning_of_each_list(self):
        answers(line("begin", "quantity 1"))
        self.assertEqual(split(answers(line("now"))), [[-11]])

    def test_begin_again(self):
        told = tell("begin", "quantity 1", "quantity 1", "still 0", "seen 1 2", "begin", "now", "one 0", "one 1",
                    "still 0", "drop 0", "quantity 3", "now")
        self.assertEqual(told[5:], [[0], [1], [0], [-33], [-2], [-2], [0], [21]])

    def test_no_quantities_there_is_one_empty_state(self):
        self.assertEqual(tell("begin", "now", "one 0", "all_states", [], "tick", "one 0"),
                         [[0], [1], [0], [1], [1], [1], [0]])

    def test_the_last_call_is_read_whole(self):
        self.assertEqual(last("begin", "quantity 0", "quantity 0", "meet 0 0 1 0"), [-22])


if __name__ == "__main__":
    unittest.main()
