"""The interface: how calls and answers are written, and that nothing is changed or kept."""

import time
import unittest

from dryhours.beds import answers
from tests.helper import GREATEST, HAS, NAMES, NOT_BEGUN, OUT_OF_RANGE, WITH_A_ROW, run, written

# Each call but begin as the interface writes it, with its number.
OTHER_CALLS = (
    [1, 10, 5, 0], [2, 7], [3, 0, 7], [4, 5], [5, 0, 5],
    [6, 0], [7, 0, 0], [8, 0, 0], [9, 0, 0], [10, 0, 0], [11, 0, 0, 5],
    [12, 0, 0, 5], [13, 0, 0, 5], [14, 0, 0, 5],
    [15, 0, 5, 0], [15, 0, 5, 2, 0, 1], [15, 0, 5, 7, 0, 1, 2, 3, 4, 5, 6],
    [16, 0, 5], [17, 0, 5], [18, 0, 5],
    [19, 0, 0], [19, 0, 2, 0, 5], [19, 0, 3, 65535, 0, 1],
    [20, 0, 0], [20, 0, 4, 0, 5, 1, 5],
    [21, 0], [22], [23, 0], [24],
)

LINE = [
    0, 100,
    1, 10, 50, 0,
    2, 120,
    6, 5,
    7, 0, 0,
    8, 0, 3,
    9, 0, 0,
    10, 0, 9,
    11, 0, 1, 3,
    12, 0, 0, 20,
    5, 0, 2,
    4, 3,
    13, 0, 0, 20,
    14, 0, 0, 20,
    2, 160,
    15, 0, 20, 2, 1, 0,
    15, 0, 20, 0,
    16, 0, 20,
    17, 1, 20,
    18, 0, 3,
    19, 2, 4, 1, 60, 0, 3,
    20, 2, 4, 1, 3, 0, 2,
    20, 0, 4, 1, 5, 0, 2,
    19, 0, 0,
    21, 5,
    22,
    23, 1,
    24,
    3, 0, 4294967295,
    3, 0, 90,
    8, 0, 0,
]

LINE_ANSWERS = [
    1, 0,
    1, 0,
    1, 0,
    1, 150,
    1, 1,
    2, 9, 3,
    1, 2,
    1, 3,
    1, 9,
    2, 3, 9,
    1, 2,
    2, 5, 150,
    1, 6,
    7, 3, 0, 2, 9, 3, 19, 1,
    1, 1,
    1, 6,
    1, 20,
    2, 150, 5,
    2, 100, 10,
    1, 121,
    1, 72,
    3, 11, 1, 0,
    3, 7, 0, 1,
    1, -22,
    2, 1, 1,
    3, 2, 2, 0,
    3, 160, 0, 1,
    6, 0, 5, 100, 1, 2, 150,
    1, -22,
    1, 120,
    1, -33,
]


class Form(unittest.TestCase):
    def test_a_line_with_each_call(self):
        self.assertEqual(answers(list(LINE)), LINE_ANSWERS)

    def test_one_call_alone(self):
        self.assertEqual(answers([0, 7]), [1, 0])
        self.assertEqual(answers([0, 10001]), [1, -22])
        self.assertEqual(answers([24]), [1, -11])

    def test_256_calls(self):
        self.assertEqual(answers([0, 7] + [6, 3] * 255), [1, 0] + [1, 7] * 255)

    def test_whole_numbers_in_a_list(self):
        answered = answers(list(LINE))
        self.assertIs(type(answered), list)
        for number in answered:
            self.assertIs(type(number), int)

    def test_dry_is_told_as_a_number(self):
        for minute in (0, 5):
            for number in answers([0, 100, 1, 10, 50, 0, 2, 120, 7, 0, minute]):
                self.assertIs(type(number), int)


class NotBegun(unittest.TestCase):
    def test_every_other_call(self):
        for call in OTHER_CALLS:
            with self.subTest(call=call):
                self.assertEqual(answers(list(call)), [1, -11])

    def test_every_call_is_tried(self):
        self.assertEqual(sorted({call[0] for call in OTHER_CALLS}), list(range(1, len(NAMES))))

    def test_all_calls_behind_one_another(self):
        calls = []
        for call in OTHER_CALLS:
            calls.extend(call)
        self.assertEqual(answers(calls), [1, -11] * len(OTHER_CALLS))
        self.assertEqual(answers(calls + calls + [0, 5, 6, 0]), [1, -11] * 2 * len(OTHER_CALLS) + [1, 0, 1, 5])

    def test_each_call_ends_where_the_next_begins(self):
        for call in OTHER_CALLS:
            with self.subTest(call=call):
                self.assertEqual(answers(call + [0, 5, 6, 0]), [1, -11, 1, 0, 1, 5])

    def test_after_a_begin_that_was_refused(self):
        for call in OTHER_CALLS:
            with self.subTest(call=call):
                self.assertEqual(answers([0, 10001] + call), [1, -22, 1, -11])

    def test_ahead_of_every_other_refusal(self):
        for name, how_many in list(zip(NAMES, HAS))[1:]:
            with self.subTest(name=name):
                for row in ([[]], [[65535] * 9]) if name in WITH_A_ROW else ([],):
                    self.assertEqual(run((name, *[GREATEST] * how_many, *row)), [NOT_BEGUN])

    def test_what_was_refused_before_begin_left_nothing(self):
        told = run(("wave", 10, 50, 0), ("bed", 7), ("minutes", 5), ("begin", 3), ("dry", 0, 0), ("height", 5),
                   ("minutes", 1))
        self.assertEqual(told, [NOT_BEGUN, NOT_BEGUN, NOT_BEGUN, [0], [-2], [3], [1, 3]])

    def test_a_long_row_is_passed_over(self):
        row = [65535] * 29000
        self.assertEqual(answers([15, 0, 5, len(row)] + row + [0, 5, 6, 0]), [1, -11, 1, 0, 1, 5])


class Rows(unittest.TestCase):
    READY = [0, 5, 2, 6, 2, 7]

    def test_the_call_behind_a_row_is_read_from_its_end_on(self):
        for call, answer in (([15, 0, 5, 0], [1, 5]), ([15, 0, 5, 1, 1], [1, 5]), ([15, 0, 5, 2, 1, 0], [1, 5]),
                             ([15, 0, 5, 7, 0, 1, 2, 3, 4, 5, 6], [1, -22]), ([19, 0, 0], [1, -22]),
                             ([19, 0, 1, 24], [1, -22]), ([19, 0, 2, 1, 22], [1, 22]),
                             ([19, 0, 3, 1, 22, 24], [1, -22]),
                             ([20, 0, 4, 1, 5, 0, 6], [3, 11, 1, 0]), ([20, 0, 0], [1, -22])):
            with self.subTest(call=call):
                self.assertEqual(answers(self.READY + call + [21, 0]), [1, 0, 1, 0, 1, 1] + answer + [3, 2, 0, 1])

    def test_the_longest_rows(self):
        for call in ([15, 0, 5], [19, 0], [20, 0]):
            for row in ([24] * 29000, [1, 5] * 14500, list(range(29000))):
                told = answers(self.READY + call + [len(row)] + row + [24])
                self.assertEqual(told, [1, 0, 1, 0, 1, 1, 1, -22, 6, 0, 0, 5, 0, 2, 5])

    def test_many_rows_in_one_line(self):
        row = [65535] * 110
        calls = self.READY + ([19, 0, len(row)] + row) * 253
        self.assertEqual(answers(calls), [1, 0, 1, 0, 1, 1] + [1, -22] * 253)


class CostlyLines(unittest.TestCase):
    """256 calls, each as costly as it can be."""

    READY = [("begin", 0), ("wave", 2000, 1000, 0), ("wave", 1999, 1000, 5), ("wave", 1997, 1000, 9),
             ("wave", 1993, 1000, 77), ("bed", 20000), ("bed", 1500), ("bed", 1200), ("bed", 1000), ("bed", 900),
             ("bed", 500)]

    def ends(self, calls):
        line = list(self.READY)
        while len(line) < 256:
            line += calls
        started = time.perf_counter()
        told = run(*line[:256])
        # Far more than it takes: what goes through all minutes anew for each order would not come to its end.
        self.assertLess(time.perf_counter() - started, 60)
        self.assertEqual(len(told), 256)
        return told

    def test_soonest_of_four_beds(self):
        told = self.ends([("soonest", 100000, [1, 60, 2, 60, 3, 60, 4, 60])])
        self.assertEqual(told[11:], [[100240, 4, 3, 2, 1]] * 245)
        self.assertEqual(self.ends([("soonest", 100, [0, 60, 1, 59, 2, 58, 5, 60])])[11:], [[-33]] * 245)

    def test_through_four_beds(self):
        self.ends([("through", minute, [0, 60, 1, 59, 2, 58, 4, 60]) for minute in range(0, 50000, 777)])

    def test_a_thousand_minutes(self):
        for call in (("longest", 0, 700, 1000), ("many", 0, 700, 1000), ("stretches", 5, 700, 1000),
                     ("together", 700, 1000, [0, 1, 2, 3, 4, 5]), ("highest", 700, 1000), ("lowest", 700, 1000)):
            self.ends([call])

    def test_spans(self):
        for call in (("next", 0, 700), ("next", 5, 300), ("wet", 0, 3), ("lasts", 0, 3), ("fits", 5, 700, 300)):
            self.ends([call])


class NothingChangedOrKept(unittest.TestCase):
    def test_the_list_is_as_it_was(self):
        handed = list(LINE)
        answers(handed)
        self.assertEqual(handed, LINE)

    def test_a_list_with_rows_is_as_it_was(self):
        rows = [15, 0, 5, 3, 2, 1, 0, 19, 0, 4, 2, 5, 0, 5, 20, 0, 6, 2, 5, 1, 5, 0, 5]
        for handed in (rows + [0, 10001], [0, 5, 2, 7, 2, 8, 2, 9] + rows, [0, 5, 2, 7] + rows):
            before = list(handed)
            first = answers(handed)
            self.assertEqual(handed, before)
            self.assertEqual(answers(handed), first)
            self.assertEqual(handed, before)

    def test_the_same_list_twice(self):
        handed = list(LINE)
        self.assertEqual(answers(handed), LINE_ANSWERS)
        self.assertEqual(answers(handed), LINE_ANSWERS)

    def test_the_object_is_new_each_time(self):
        answers(written([("begin", 5), ("bed", 7), ("wave", 10, 5, 0), ("minutes", 8)]))
        self.assertEqual(answers(written([("height", 0)])), [1, -11])
        self.assertEqual(run(("begin", 1), ("dry", 0, 0), ("height", 5), ("minutes", 1)), [[0], [-2], [1], [1, 1]])

    def test_the_answers_are_a_list_of_their_own(self):
        first = answers(list(LINE))
        first.append(99)
        self.assertEqual(answers(list(LINE)), LINE_ANSWERS)

    def test_the_answers_are_not_the_list_handed_in(self):
        handed = [0, 10001]
        self.assertIsNot(answers(handed), handed)
        self.assertEqual(run(("begin", 10001)), [OUT_OF_RANGE])


if __name__ == "__main__":
    unittest.main()
