"""Point 3: longest, many, stretches, together, highest, lowest, least. (What bed and minute refuse: test_looks.)"""

import unittest

from tests.helper import ALWAYS, GREATEST, LOW, NEVER, NO_SUCH_BED, NOT_SO_SOON, OFTEN, OUT_OF_RANGE, SHORT, SLOPE
from tests.helper import last, run

# Beside the one of OFTEN: dry from 9 to 11, at 10 alone, always, never, from 7 to 13, and each ten minutes again.
SIX = [*OFTEN, ("bed", 3), ("bed", 1), ("bed", 11), ("bed", 0), ("bed", 7)]


class OutOfRange(unittest.TestCase):
    """What the calls refuse alike that are about the water alone, or about a row of beds."""

    CALLS = (("highest",), ("lowest",), ("least",), ("together", [0]), ("together", []))

    def test_the_minute(self):
        for name, *row in self.CALLS:
            with self.subTest(name=name, row=row):
                for minute in (0, 1, 99999, 100000):
                    self.assertGreaterEqual(last(*OFTEN, (name, minute, 1, *row))[0], 0)
                for minute in (100001, GREATEST):
                    self.assertEqual(last(*OFTEN, (name, minute, 1, *row)), OUT_OF_RANGE)

    def test_how_many(self):
        for name, *row in self.CALLS:
            most = 300 if name == "least" else 1000
            with self.subTest(name=name, row=row):
                for how_many in (1, 2, most - 1, most):
                    self.assertGreaterEqual(last(*OFTEN, (name, 7, how_many, *row))[0], 0)
                for how_many in (0, most + 1, GREATEST):
                    self.assertEqual(last(*OFTEN, (name, 7, how_many, *row)), OUT_OF_RANGE)

    def test_both(self):
        for name, *row in self.CALLS:
            self.assertEqual(last(*OFTEN, (name, GREATEST, GREATEST, *row)), OUT_OF_RANGE)
            self.assertEqual(last(*OFTEN, (name, 100001, 0, *row)), OUT_OF_RANGE)


class Longest(unittest.TestCase):
    def test_ordinary(self):
        self.assertEqual(last(*OFTEN, ("longest", 0, 1, 12)), [5, 8])
        self.assertEqual(last(*OFTEN, ("longest", 0, 8, 12)), [5, 8])
        self.assertEqual(last(*OFTEN, ("longest", 0, 10, 12)), [4, 18])

    def test_range(self):
        for how_many in (1, 2, 1000):
            self.assertEqual(last(*ALWAYS, ("longest", 0, 7, how_many)), [how_many, 7])
        for how_many in (0, 1001, GREATEST):
            self.assertEqual(last(*ALWAYS, ("longest", 0, 7, how_many)), OUT_OF_RANGE)

    def test_of_alike_ones_the_first(self):
        self.assertEqual(last(*OFTEN, ("longest", 0, 3, 20)), [5, 8])
        self.assertEqual(last(*OFTEN, ("longest", 0, 3, 1000)), [5, 8])
        self.assertEqual(last(*OFTEN, ("longest", 0, 9, 13)), [4, 9])
        self.assertEqual(last(*OFTEN, ("longest", 0, 9, 14)), [5, 18])

    def test_one_that_begins_at_t(self):
        self.assertEqual(last(*OFTEN, ("longest", 0, 0, 8)), [3, 0])
        self.assertEqual(last(*OFTEN, ("longest", 0, 8, 10)), [5, 8])
        self.assertEqual(last(*OFTEN, ("longest", 0, 12, 6)), [1, 12])

    def test_one_that_ends_with_the_minutes(self):
        self.assertEqual(last(*OFTEN, ("longest", 0, 3, 6)), [1, 8])
        self.assertEqual(last(*OFTEN, ("longest", 0, 3, 10)), [5, 8])
        self.assertEqual(last(*OFTEN, ("longest", 0, 3, 9)), [4, 8])
        self.assertEqual(last(*OFTEN, ("longest", 0, 1, 10)), [3, 8])

    def test_no_dry_minute(self):
        self.assertEqual(last(*OFTEN, ("longest", 0, 3, 5)), NOT_SO_SOON)
        self.assertEqual(last(*OFTEN, ("longest", 0, 3, 1)), NOT_SO_SOON)
        self.assertEqual(last(*NEVER, ("longest", 0, 0, 1000)), NOT_SO_SOON)
        self.assertEqual(last(*LOW, ("longest", 0, 100, 1000)), NOT_SO_SOON)

    def test_all_dry(self):
        self.assertEqual(last(*OFTEN, ("longest", 0, 9, 3)), [3, 9])
        self.assertEqual(last(*OFTEN, ("longest", 0, 12, 1)), [1, 12])
        self.assertEqual(last(*ALWAYS, ("longest", 0, 100000, 1000)), [1000, 100000])

    def test_behind_minute_100000(self):
        self.assertEqual(last(*OFTEN, ("longest", 0, 100000, 1000)), [5, 100008])
        self.assertEqual(last(*LOW, ("longest", 0, 100000, 1000)), [100, 100000])


class Many(unittest.TestCase):
    def test_ordinary(self):
        for minute, how_many, answer in ((0, 10, 5), (0, 3, 3), (0, 4, 3), (2, 7, 2), (2, 6, 1), (3, 5, 0), (3, 6, 1),
                                         (7, 1, 0), (8, 1, 1), (1, 20, 10), (1, 25, 12)):
            with self.subTest(minute=minute, how_many=how_many):
                self.assertEqual(last(*OFTEN, ("many", 0, minute, how_many)), [answer])

    def test_range(self):
        for how_many in (1, 2, 999, 1000):
            self.assertEqual(last(*ALWAYS, ("many", 0, 7, how_many)), [how_many])
        for how_many in (0, 1001, GREATEST):
            self.assertEqual(last(*ALWAYS, ("many", 0, 7, how_many)), OUT_OF_RANGE)

    def test_none_is_no_refusal(self):
        self.assertEqual(last(*NEVER, ("many", 0, 0, 1000)), [0])
        self.assertEqual(last(*LOW, ("many", 0, 100, 1000)), [0])

    def test_just_as_high_as_the_bed(self):
        told = run(*LOW, ("many", 0, 0, 100), ("many", 0, 0, 101), ("many", 0, 100, 1), ("many", 0, 1900, 2),
                   ("many", 0, 1500, 1000))
        self.assertEqual(told[3:], [[100], [100], [0], [1], [199]])

    def test_behind_minute_100000(self):
        self.assertEqual(last(*LOW, ("many", 0, 100000, 1000)), [100])
        self.assertEqual(last(*OFTEN, ("many", 0, 100000, 1000)), [500])

    def test_each_bed_by_itself(self):
        told = run(*SIX, *[("many", bed, 0, 20) for bed in range(6)])
        self.assertEqual(told[8:], [[10], [6], [2], [20], [0], [14]])


class Stretches(unittest.TestCase):
    def test_none(self):
        self.assertEqual(last(*OFTEN, ("stretches", 0, 3, 5)), [0])
        self.assertEqual(last(*OFTEN, ("stretches", 0, 3, 1)), [0])
        self.assertEqual(last(*NEVER, ("stretches", 0, 0, 1000)), [0])

    def test_one(self):
        self.assertEqual(last(*OFTEN, ("stretches", 0, 3, 15)), [1, 8, 5])
        self.assertEqual(last(*OFTEN, ("stretches", 0, 9, 1)), [1, 9, 1])
        self.assertEqual(last(*ALWAYS, ("stretches", 0, 100000, 1000)), [1, 100000, 1000])

    def test_many(self):
        self.assertEqual(last(*OFTEN, ("stretches", 0, 3, 30)), [3, 8, 5, 18, 5, 28, 5])
        hundred = last(*OFTEN, ("stretches", 0, 5, 1000))
        self.assertEqual(hundred[0], 100)
        self.assertEqual(hundred[1:], [number for first in range(8, 1008, 10) for number in (first, 5)])

    def test_as_many_as_can_be(self):
        every_other = [("begin", 0), ("wave", 2, 5, 1), ("bed", 1)]
        self.assertEqual(last(*every_other, ("stretches", 0, 0, 5)), [2, 1, 1, 3, 1])
        told = last(*every_other, ("stretches", 0, 0, 1000))
        self.assertEqual(told[0], 500)
        self.assertEqual(len(told), 1001)
        self.assertEqual(told[-2:], [999, 1])

    def test_one_that_begins_at_t(self):
        self.assertEqual(last(*OFTEN, ("stretches", 0, 0, 8)), [1, 0, 3])
        self.assertEqual(last(*OFTEN, ("stretches", 0, 2, 6)), [1, 2, 1])
        self.assertEqual(last(*OFTEN, ("stretches", 0, 8, 10)), [1, 8, 5])
        self.assertEqual(last(*OFTEN, ("stretches", 0, 7, 10)), [1, 8, 5])

    def test_one_that_ends_with_the_minutes(self):
        self.assertEqual(last(*OFTEN, ("stretches", 0, 3, 10)), [1, 8, 5])
        self.assertEqual(last(*OFTEN, ("stretches", 0, 3, 9)), [1, 8, 4])
        self.assertEqual(last(*OFTEN, ("stretches", 0, 3, 6)), [1, 8, 1])
        self.assertEqual(last(*OFTEN, ("stretches", 0, 1, 8)), [2, 1, 2, 8, 1])

    def test_range(self):
        for how_many in (1, 1000):
            self.assertEqual(last(*ALWAYS, ("stretches", 0, 7, how_many)), [1, 7, how_many])
        for how_many in (0, 1001, GREATEST):
            self.assertEqual(last(*ALWAYS, ("stretches", 0, 7, how_many)), OUT_OF_RANGE)

    def test_just_as_high_as_the_bed(self):
        self.assertEqual(last(*LOW, ("stretches", 0, 99, 2)), [1, 99, 1])
        self.assertEqual(last(*LOW, ("stretches", 0, 1500, 1000)), [1, 1901, 199])

    def test_behind_minute_100000(self):
        self.assertEqual(last(*OFTEN, ("stretches", 0, 100000, 20)), [3, 100000, 3, 100008, 5, 100018, 2])


class Together(unittest.TestCase):
    def test_no_bed_at_all(self):
        # All of none are dry at any minute.
        for how_many in (1, 20, 1000):
            self.assertEqual(last(*SIX, ("together", 0, how_many, [])), [how_many])
            self.assertEqual(last(*SHORT, ("together", 0, how_many, [])), [how_many])

    def test_one_bed(self):
        for bed, answer in enumerate((10, 6, 2, 20, 0, 14)):
            self.assertEqual(last(*SIX, ("together", 0, 20, [bed])), [answer])

    def test_all_of_them(self):
        for beds, answer in (([0, 1], 6), ([1, 0], 6), ([0, 3], 10), ([3, 5], 14), ([5, 3, 0], 10), ([0, 1, 2], 2),
                             ([0, 4], 0), ([5, 0, 1, 2, 3], 2)):
            with self.subTest(beds=beds):
                self.assertEqual(last(*SIX, ("together", 0, 20, beds)), [answer])

    def test_only_some_are_dry(self):
        # At 2 bed 0 is dry, not bed 1; at 3 bed 5 alone.
        told = run(*SIX, ("together", 2, 1, [0]), ("together", 2, 1, [0, 1]), ("together", 2, 1, [1, 0]),
                   ("together", 3, 1, [5]), ("together", 3, 1, [5, 0]), ("together", 4, 3, [5, 0]),
                   ("together", 7, 3, [5, 0]))
        self.assertEqual(told[8:], [[1], [0], [0], [1], [0], [0], [2]])

    def test_six_beds(self):
        dry = [*SHORT, *[("bed", height) for height in (3, 5, 7, 9, 11, 20000)]]
        self.assertEqual(last(*dry, ("together", 0, 20, [0, 1, 2, 3, 4, 5])), [6])
        self.assertEqual(last(*dry, ("together", 0, 20, [5, 4, 3, 2, 1])), [10])
        self.assertEqual(last(*SIX, ("together", 0, 20, [0, 1, 2, 3, 4, 5])), [0])

    def test_seven_beds(self):
        self.assertEqual(last(*SIX, ("together", 0, 20, [0, 1, 2, 3, 4, 5, 6])), OUT_OF_RANGE)
        self.assertEqual(last(*SIX, ("together", 0, 20, [0, 1, 2, 3, 4, 5, 0])), OUT_OF_RANGE)
        self.assertEqual(last(*SHORT, ("together", 0, 20, [9, 8, 7, 6, 5, 4, 3])), OUT_OF_RANGE)

    def test_a_long_list(self):
        self.assertEqual(last(*SIX, ("together", 0, 20, list(range(29000)))), OUT_OF_RANGE)
        self.assertEqual(last(*SIX, ("together", 0, 20, [65535] * 29000)), OUT_OF_RANGE)

    def test_a_bed_told_twice(self):
        for beds in ([0, 0], [3, 3], [0, 1, 0], [1, 0, 2, 2], [3, 0, 1, 2, 4, 3]):
            with self.subTest(beds=beds):
                self.assertEqual(last(*SIX, ("together", 0, 20, beds)), OUT_OF_RANGE)

    def test_a_bed_that_is_not_there(self):
        for beds in ([6], [65535], [0, 6], [6, 0], [5, 4, 3, 2, 1, 6], [6, 7, 8, 9, 10, 11]):
            with self.subTest(beds=beds):
                self.assertEqual(last(*SIX, ("together", 0, 20, beds)), NO_SUCH_BED)
        self.assertEqual(last(*OFTEN, ("together", 0, 20, [1])), NO_SUCH_BED)
        self.assertEqual(last(*SHORT, ("together", 0, 20, [0])), NO_SUCH_BED)

    def test_out_of_range_is_told_ahead_of_no_such_bed(self):
        self.assertEqual(last(*SIX, ("together", 0, 20, [6, 6])), OUT_OF_RANGE)
        self.assertEqual(last(*SIX, ("together", 0, 20, [6, 0, 0])), OUT_OF_RANGE)
        self.assertEqual(last(*SIX, ("together", 0, 0, [6])), OUT_OF_RANGE)
        self.assertEqual(last(*SIX, ("together", 0, 1001, [6])), OUT_OF_RANGE)
        self.assertEqual(last(*SIX, ("together", 100001, 20, [6])), OUT_OF_RANGE)
        self.assertEqual(last(*SIX, ("together", GREATEST, GREATEST, [65535])), OUT_OF_RANGE)

    def test_behind_minute_100000(self):
        self.assertEqual(last(*SIX, ("together", 100000, 1000, [0, 1])), [300])


class HighestAndLowest(unittest.TestCase):
    def test_ordinary(self):
        told = run(*SHORT, ("highest", 0, 10), ("lowest", 0, 10), ("highest", 1, 3), ("lowest", 1, 3),
                   ("highest", 6, 3), ("lowest", 6, 3), ("highest", 7, 10), ("lowest", 7, 10))
        self.assertEqual(told[2:], [[10, 5], [0, 0], [6, 3], [2, 1], [8, 6], [4, 8], [10, 15], [0, 10]])

    def test_of_alike_ones_the_first(self):
        told = run(*SHORT, ("highest", 0, 1000), ("lowest", 1, 1000), ("highest", 8, 5), ("lowest", 3, 5),
                   ("highest", 6, 1000), ("highest", 5, 11))
        self.assertEqual(told[2:], [[10, 5], [0, 10], [4, 8], [6, 3], [10, 15], [10, 5]])
        # 50 * 2 * 3 // 7 twice, with halfway between them.
        odd = [("begin", 0), ("wave", 7, 50, 0)]
        self.assertEqual(run(*odd, ("highest", 0, 7), ("highest", 4, 7), ("lowest", 1, 7))[2:],
                         [[42, 3], [42, 4], [0, 7]])

    def test_a_single_minute(self):
        for minute, water in ((0, 0), (3, 6), (5, 10), (99999, 2), (100000, 0)):
            told = run(*SHORT, ("highest", minute, 1), ("lowest", minute, 1))
            self.assertEqual(told[2:], [[water, minute], [water, minute]])

    def test_no_wave_at_all(self):
        for base in (0, 7, 10000):
            told = run(("begin", base), ("highest", 44, 1000), ("lowest", 44, 1000), ("highest", 100000, 1))
            self.assertEqual(told[1:], [[base, 44], [base, 44], [base, 100000]])

    def test_the_last_of_the_minutes_and_the_one_behind(self):
        told = run(*SLOPE, ("highest", 1, 1000), ("highest", 1, 999), ("lowest", 1001, 1000), ("lowest", 1001, 999),
                   ("highest", 0, 1000), ("highest", 2000, 1000))
        self.assertEqual(told[2:], [[1000, 1000], [999, 999], [0, 2000], [1, 1999], [999, 999], [999, 2999]])

    def test_two_waves(self):
        # 0 + 0, 2 + 10, 4 + 0, 6 + 10, 8 + 0, 10 + 10, 8 + 0 and so on.
        two = [*SHORT, ("wave", 2, 10, 0)]
        told = run(*two, ("highest", 0, 10), ("lowest", 1, 9), ("highest", 6, 9), ("lowest", 3, 3))
        self.assertEqual(told[3:], [[20, 5], [4, 2], [16, 7], [8, 4]])

    def test_the_highest_water(self):
        full = [("begin", 10000)] + [("wave", 2, 1000, 0)] * 4
        self.assertEqual(run(*full, ("highest", 0, 1000), ("lowest", 1, 1000))[5:], [[14000, 1], [10000, 2]])

    def test_behind_minute_100000(self):
        told = run(*SLOPE, ("highest", 100000, 1000), ("lowest", 99999, 2), ("highest", 99999, 1000))
        self.assertEqual(told[2:], [[999, 100999], [0, 100000], [998, 100998]])


class Least(unittest.TestCase):
    def test_one_more_than_the_greatest_height(self):
        told = run(*SHORT, ("least", 0, 1), ("least", 0, 3), ("least", 0, 10), ("least", 6, 8), ("least", 5, 1))
        self.assertEqual(told[2:], [[1], [5], [11], [9], [11]])

    def test_no_wave_at_all(self):
        self.assertEqual(last(("begin", 0), ("least", 0, 300)), [1])
        self.assertEqual(last(("begin", 10000), ("least", 100000, 300)), [10001])

    def test_the_highest_water(self):
        self.assertEqual(last(("begin", 10000), *[("wave", 2, 1000, 0)] * 4, ("least", 0, 300)), [14001])

    def test_a_bed_raised_to_it_is_dry_in_all_and_one_lower_is_not(self):
        for minute, how_many in ((0, 1), (0, 10), (3, 4), (97, 300), (100000, 17), (12, 299)):
            waves = [("begin", 3), ("wave", 7, 50, 2), ("wave", 61, 33, 0), ("bed", 0)]
            least = last(*waves, ("least", minute, how_many))[0]
            with self.subTest(minute=minute, how_many=how_many):
                told = run(*waves, ("raise", 0, least), ("many", 0, minute, how_many), ("raise", 0, least - 1),
                           ("many", 0, minute, how_many), ("highest", minute, how_many))
                self.assertEqual(told[5], [how_many])
                self.assertLess(told[7][0], how_many)
                self.assertEqual(told[8][0], least - 1)


if __name__ == "__main__":
    unittest.main()
