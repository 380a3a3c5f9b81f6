"""Point 1: begin, wave, bed, raise, minutes, work. (That work is kept: test_state.)"""

import unittest

from tests.helper import GREATEST, NO_SUCH_BED, NOT_DRY, OUT_OF_RANGE, TOO_LATE, TOO_MANY
from tests.helper import last, run, slope, up_to_minute


class Begin(unittest.TestCase):
    def test_range(self):
        for base, answer in ((0, [0]), (1, [0]), (10000, [0]), (10001, OUT_OF_RANGE), (GREATEST, OUT_OF_RANGE)):
            with self.subTest(base=base):
                self.assertEqual(last(("begin", base)), answer)

    def test_the_base_is_the_height_without_waves(self):
        for base in (0, 1, 10000):
            self.assertEqual(run(("begin", base), ("height", 0), ("height", 100000)), [[0], [base], [base]])

    def test_a_second_one_starts_afresh(self):
        told = run(("begin", 5), ("wave", 10, 50, 0), ("bed", 7), ("bed", 8), ("minutes", 5),
                   ("begin", 6), ("height", 5), ("dry", 0, 0), ("bed", 9), ("wave", 10, 50, 0), ("minutes", 5))
        self.assertEqual(told[5:], [[0], [6], NO_SUCH_BED, [0], [0], [5, 56]])

    def test_a_second_one_that_is_refused_leaves_all(self):
        before = [("begin", 5), ("wave", 10, 50, 0), ("bed", 7), ("minutes", 5)]
        behind = [("height", 5), ("dry", 0, 10), ("bed", 9), ("wave", 10, 50, 0), ("minutes", 5)]
        told = run(*before, ("begin", 10001), *behind)
        self.assertEqual(told[4:], [OUT_OF_RANGE, [55], [1], [1], [1], [10, 5]])

    def test_one_that_is_taken_behind_one_that_is_refused(self):
        self.assertEqual(run(("begin", GREATEST), ("begin", 3), ("height", 0)), [OUT_OF_RANGE, [0], [3]])


class AddWave(unittest.TestCase):
    def test_numbers_from_0_and_at_most_4(self):
        told = run(("begin", 0), *[("wave", 10, 5, 0)] * 6)
        self.assertEqual(told[1:], [[0], [1], [2], [3], TOO_MANY, TOO_MANY])

    def test_how_many_minutes(self):
        for each, answer in ((0, OUT_OF_RANGE), (1, OUT_OF_RANGE), (2, [0]), (3, [0]), (2000, [0]),
                             (2001, OUT_OF_RANGE), (GREATEST, OUT_OF_RANGE)):
            with self.subTest(each=each):
                self.assertEqual(last(("begin", 0), ("wave", each, 5, 0)), answer)

    def test_how_high(self):
        for high, answer in ((0, OUT_OF_RANGE), (1, [0]), (1000, [0]), (1001, OUT_OF_RANGE),
                             (GREATEST, OUT_OF_RANGE)):
            with self.subTest(high=high):
                self.assertEqual(last(("begin", 0), ("wave", 10, high, 0)), answer)

    def test_its_lowest_minute(self):
        for each, low, answer in ((10, 0, [0]), (10, 9, [0]), (10, 10, OUT_OF_RANGE), (10, 11, OUT_OF_RANGE),
                                  (2, 1, [0]), (2, 2, OUT_OF_RANGE), (2000, 1999, [0]), (2000, 2000, OUT_OF_RANGE),
                                  (10, GREATEST, OUT_OF_RANGE)):
            with self.subTest(each=each, low=low):
                self.assertEqual(last(("begin", 0), ("wave", each, 5, low)), answer)

    def test_out_of_range_is_told_ahead_of_too_many(self):
        four = [("begin", 0)] + [("wave", 10, 5, 0)] * 4
        for wave in ((1, 5, 0), (2001, 5, 0), (10, 0, 0), (10, 1001, 0), (10, 5, 10), (GREATEST, GREATEST, GREATEST)):
            with self.subTest(wave=wave):
                self.assertEqual(last(*four, ("wave", *wave)), OUT_OF_RANGE)
        self.assertEqual(last(*four, ("wave", 2000, 1000, 1999)), TOO_MANY)

    def test_one_that_is_refused_adds_nothing(self):
        told = run(("begin", 5), ("wave", 10, 1001, 0), ("height", 5), ("wave", 10, 50, 0), ("height", 5),
                   *[("wave", 10, 50, 0)] * 4, ("height", 5))
        self.assertEqual(told[1:], [OUT_OF_RANGE, [5], [0], [55], [1], [2], [3], TOO_MANY, [205]])


class AddBed(unittest.TestCase):
    def test_numbers_from_0_and_at_most_6(self):
        told = run(("begin", 0), *[("bed", 10)] * 8)
        self.assertEqual(told[1:], [[0], [1], [2], [3], [4], [5], TOO_MANY, TOO_MANY])

    def test_range(self):
        for height, answer in ((0, [0]), (1, [0]), (20000, [0]), (20001, OUT_OF_RANGE), (GREATEST, OUT_OF_RANGE)):
            with self.subTest(height=height):
                self.assertEqual(last(("begin", 0), ("bed", height)), answer)

    def test_out_of_range_is_told_ahead_of_too_many(self):
        six = [("begin", 0)] + [("bed", 10)] * 6
        self.assertEqual(last(*six, ("bed", 20001)), OUT_OF_RANGE)
        self.assertEqual(last(*six, ("bed", 20000)), TOO_MANY)

    def test_one_that_is_refused_is_not_there(self):
        told = run(("begin", 0), ("bed", 20001), ("dry", 0, 0), ("bed", 7), *[("bed", 1)] * 6, ("dry", 5, 0),
                   ("dry", 6, 0))
        self.assertEqual(told[1:4], [OUT_OF_RANGE, NO_SUCH_BED, [0]])
        self.assertEqual(told[-3:], [TOO_MANY, [1], NO_SUCH_BED])

    def test_each_lies_at_its_own_height(self):
        told = run(("begin", 5), ("bed", 5), ("bed", 6), ("bed", 0), ("dry", 0, 0), ("dry", 1, 0), ("dry", 2, 0))
        self.assertEqual(told[4:], [[0], [1], [0]])


class RaiseBed(unittest.TestCase):
    def test_where_it_lay(self):
        told = run(("begin", 5), ("bed", 7), ("bed", 8), ("raise", 0, 3), ("raise", 0, 20000), ("raise", 0, 0),
                   ("raise", 0, 0), ("raise", 1, 9))
        self.assertEqual(told[3:], [[7], [3], [20000], [0], [8]])

    def test_it_lies_there(self):
        told = run(("begin", 5), ("bed", 5), ("bed", 5), ("dry", 0, 0), ("raise", 0, 6), ("dry", 0, 0), ("dry", 1, 0),
                   ("raise", 0, 4), ("dry", 0, 0))
        self.assertEqual(told[3:], [[0], [5], [1], [0], [6], [0]])

    def test_range(self):
        for height, answer in ((0, [7]), (20000, [7]), (20001, OUT_OF_RANGE), (GREATEST, OUT_OF_RANGE)):
            with self.subTest(height=height):
                self.assertEqual(last(("begin", 5), ("bed", 7), ("raise", 0, height)), answer)

    def test_no_such_bed(self):
        self.assertEqual(last(("begin", 5), ("raise", 0, 3)), NO_SUCH_BED)
        six = [("begin", 5)] + [("bed", 7)] * 6
        self.assertEqual(last(*six, ("raise", 5, 3)), [7])
        for bed in (6, 7, GREATEST):
            self.assertEqual(last(*six, ("raise", bed, 3)), NO_SUCH_BED)

    def test_no_such_bed_is_told_ahead_of_out_of_range(self):
        self.assertEqual(last(("begin", 5), ("bed", 7), ("raise", 1, 20001)), NO_SUCH_BED)

    def test_one_that_is_refused_leaves_it(self):
        told = run(("begin", 5), ("bed", 7), ("raise", 0, 20001), ("raise", 1, 3), ("raise", 0, 8))
        self.assertEqual(told[2:], [OUT_OF_RANGE, NO_SUCH_BED, [7]])


class PassMinutes(unittest.TestCase):
    def test_which_minute_and_the_height_then(self):
        told = run(("begin", 5), ("wave", 10, 50, 0), ("minutes", 1), ("minutes", 4), ("minutes", 5),
                   ("minutes", 1000))
        self.assertEqual(told[2:], [[1, 15], [5, 55], [10, 5], [1010, 5]])

    def test_range(self):
        for how_many, answer in ((0, OUT_OF_RANGE), (1, [1, 5]), (1000, [1000, 5]), (1001, OUT_OF_RANGE),
                                 (GREATEST, OUT_OF_RANGE)):
            with self.subTest(how_many=how_many):
                self.assertEqual(last(("begin", 5), ("minutes", how_many)), answer)

    def test_up_to_minute_100000(self):
        near = [("begin", 5), ("wave", 10, 50, 0), *up_to_minute(99500)]
        self.assertEqual(last(*near, ("minutes", 500)), [100000, 5])
        self.assertEqual(last(*near, ("minutes", 501)), TOO_LATE)
        self.assertEqual(last(*near, ("minutes", 1000)), TOO_LATE)
        self.assertEqual(last(*near, ("minutes", 499), ("minutes", 1)), [100000, 5])

    def test_at_minute_100000(self):
        there = [("begin", 5), *up_to_minute(100000)]
        self.assertEqual(last(*there), [100000, 5])
        self.assertEqual(last(*there, ("minutes", 1)), TOO_LATE)

    def test_out_of_range_is_told_ahead_of_too_late(self):
        there = [("begin", 5), *up_to_minute(100000)]
        for how_many in (0, 1001, GREATEST):
            self.assertEqual(last(*there, ("minutes", how_many)), OUT_OF_RANGE)

    def test_refused_they_do_not_go_by(self):
        told = run(("begin", 5), *up_to_minute(99999), ("minutes", 2), ("minutes", 0), ("minutes", 1001),
                   ("minutes", 1), ("minutes", 1))
        self.assertEqual(told[-5:], [TOO_LATE, OUT_OF_RANGE, OUT_OF_RANGE, [100000, 5], TOO_LATE])


class Work(unittest.TestCase):
    # Dry from 0 to 99, and again from 1901 to 2099.
    BED_AT_100 = [("begin", 0), slope(0), ("bed", 100)]

    def test_which_minute(self):
        told = run(*self.BED_AT_100, ("work", 0, 1), ("work", 0, 9), ("minutes", 1))
        self.assertEqual(told[3:], [[1], [10], [11, 11]])

    def test_up_to_the_last_dry_minute(self):
        self.assertEqual(last(*self.BED_AT_100, ("work", 0, 100)), [100])
        self.assertEqual(last(*self.BED_AT_100, ("work", 0, 101)), NOT_DRY)
        self.assertEqual(last(*self.BED_AT_100, ("minutes", 99), ("work", 0, 1)), [100])
        self.assertEqual(last(*self.BED_AT_100, ("minutes", 99), ("work", 0, 2)), NOT_DRY)

    def test_from_the_first_dry_minute(self):
        self.assertEqual(last(*self.BED_AT_100, *up_to_minute(1900), ("work", 0, 1)), NOT_DRY)
        self.assertEqual(last(*self.BED_AT_100, *up_to_minute(1900), ("work", 0, 200)), NOT_DRY)
        self.assertEqual(last(*self.BED_AT_100, *up_to_minute(1901), ("work", 0, 199)), [2100])
        self.assertEqual(last(*self.BED_AT_100, *up_to_minute(1901), ("work", 0, 200)), NOT_DRY)

    def test_behind_the_last_dry_minute(self):
        told = run(*self.BED_AT_100, ("work", 0, 100), ("work", 0, 1), ("minutes", 1))
        self.assertEqual(told[3:], [[100], NOT_DRY, [101, 101]])

    def test_a_wet_minute_between(self):
        bed = [("begin", 0), ("wave", 10, 50, 5), ("bed", 50)]
        self.assertEqual(last(*bed, ("work", 0, 10)), NOT_DRY)
        self.assertEqual(last(*bed, ("minutes", 1), ("work", 0, 9)), [10])
        self.assertEqual(last(*bed, ("minutes", 1), ("work", 0, 10)), NOT_DRY)
        self.assertEqual(last(*bed, ("minutes", 1), ("work", 0, 15)), NOT_DRY)

    def test_range(self):
        always = [("begin", 0), ("bed", 1)]
        for how_many, answer in ((0, OUT_OF_RANGE), (1, [1]), (1000, [1000]), (1001, OUT_OF_RANGE),
                                 (GREATEST, OUT_OF_RANGE)):
            with self.subTest(how_many=how_many):
                self.assertEqual(last(*always, ("work", 0, how_many)), answer)

    def test_no_such_bed(self):
        self.assertEqual(last(("begin", 0), ("work", 0, 1)), NO_SUCH_BED)
        for bed in (1, 2, GREATEST):
            self.assertEqual(last(("begin", 0), ("bed", 1), ("work", bed, 1)), NO_SUCH_BED)

    def test_up_to_minute_100000(self):
        near = [("begin", 0), ("bed", 1), *up_to_minute(99500)]
        self.assertEqual(last(*near, ("work", 0, 500)), [100000])
        self.assertEqual(last(*near, ("work", 0, 501)), TOO_LATE)
        self.assertEqual(last(*near, ("work", 0, 500), ("work", 0, 1)), TOO_LATE)

    def test_which_refusal_is_told_first(self):
        there = [("begin", 0), ("bed", 0), *up_to_minute(100000)]
        self.assertEqual(last(*there, ("work", 1, 0)), NO_SUCH_BED)
        self.assertEqual(last(*there, ("work", 1, 1)), NO_SUCH_BED)
        self.assertEqual(last(*there, ("work", 0, 0)), OUT_OF_RANGE)
        self.assertEqual(last(*there, ("work", 0, 1001)), OUT_OF_RANGE)
        self.assertEqual(last(*there, ("work", 0, 1)), TOO_LATE)
        self.assertEqual(last(("begin", 0), ("bed", 0), ("work", 0, 1001)), OUT_OF_RANGE)
        self.assertEqual(last(("begin", 0), ("bed", 0), ("work", 0, 1000)), NOT_DRY)

    def test_just_as_high_as_the_bed(self):
        self.assertEqual(last(("begin", 5), ("bed", 5), ("work", 0, 1)), NOT_DRY)
        self.assertEqual(last(("begin", 5), ("bed", 6), ("work", 0, 1)), [1])

    def test_refused_no_minute_goes_by(self):
        told = run(*self.BED_AT_100, ("work", 0, 101), ("work", 1, 1), ("work", 0, 0), ("minutes", 1))
        self.assertEqual(told[3:], [NOT_DRY, NO_SUCH_BED, OUT_OF_RANGE, [1, 1]])


if __name__ == "__main__":
    unittest.main()
