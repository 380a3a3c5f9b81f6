"""Point 2: dry, next, wet, lasts, fits. (Of height see test_waves.)"""

import unittest

from tests.helper import ALWAYS, GREATEST, HIGH, LOW, NEVER, NO_SUCH_BED, NOT_SO_SOON, OFTEN, OUT_OF_RANGE, SLOPE
from tests.helper import last, run, slope


class Refusals(unittest.TestCase):
    """What the calls refuse alike that are about a bed and a minute."""

    # Each call with as many minutes as are always in range.
    CALLS = (("dry",), ("next",), ("wet",), ("lasts",), ("fits", 1), ("longest", 1),
             ("many", 1), ("stretches", 1))

    def test_no_such_bed(self):
        for name, *more in self.CALLS:
            with self.subTest(name=name):
                self.assertEqual(last(("begin", 0), (name, 0, 0, *more)), NO_SUCH_BED)
                for bed in (1, 2, GREATEST):
                    self.assertEqual(last(*ALWAYS, (name, bed, 0, *more)), NO_SUCH_BED)

    def test_the_last_of_six_beds(self):
        six = [("begin", 0)] + [("bed", 5)] * 6
        for name, *more in self.CALLS:
            with self.subTest(name=name):
                self.assertNotEqual(last(*six, (name, 5, 0, *more)), NO_SUCH_BED)
                self.assertEqual(last(*six, (name, 6, 0, *more)), NO_SUCH_BED)

    def test_the_minute(self):
        for name, *more in self.CALLS:
            with self.subTest(name=name):
                for minute in (0, 100000):
                    self.assertNotEqual(last(*OFTEN, (name, 0, minute, *more)), OUT_OF_RANGE)
                for minute in (100001, GREATEST):
                    self.assertEqual(last(*OFTEN, (name, 0, minute, *more)), OUT_OF_RANGE)

    def test_no_such_bed_is_told_ahead_of_out_of_range(self):
        for name, *more in self.CALLS:
            with self.subTest(name=name):
                self.assertEqual(last(*OFTEN, (name, 1, 100001, *more)), NO_SUCH_BED)
        for name in ("fits", "longest", "many", "stretches"):
            for how_many in (0, 1001, GREATEST):
                self.assertEqual(last(*OFTEN, (name, 1, 0, how_many)), NO_SUCH_BED)

    def test_out_of_range_is_told_ahead_of_none(self):
        for name in ("next", "fits", "longest"):
            more = [1] if name != "next" else []
            self.assertEqual(last(*NEVER, (name, 0, 0, *more)), NOT_SO_SOON)
            self.assertEqual(last(*NEVER, (name, 0, 100001, *more)), OUT_OF_RANGE)
        self.assertEqual(last(*ALWAYS, ("wet", 0, 0)), NOT_SO_SOON)
        self.assertEqual(last(*ALWAYS, ("wet", 0, 100001)), OUT_OF_RANGE)
        for name, most in (("fits", 300), ("longest", 1000)):
            for how_many in (0, most + 1, GREATEST):
                self.assertEqual(last(*NEVER, (name, 0, 0, how_many)), OUT_OF_RANGE)


class Dry(unittest.TestCase):
    def test_at_each_minute(self):
        told = run(*OFTEN, *[("dry", 0, minute) for minute in range(23)])
        dry = [minute for minute in range(23) if told[3 + minute] == [1]]
        wet = [minute for minute in range(23) if told[3 + minute] == [0]]
        self.assertEqual(dry, [0, 1, 2, 8, 9, 10, 11, 12, 18, 19, 20, 21, 22])
        self.assertEqual(len(dry) + len(wet), 23)

    def test_just_as_high_as_the_bed(self):
        told = run(*LOW, ("dry", 0, 99), ("dry", 0, 100), ("dry", 0, 1900), ("dry", 0, 1901))
        self.assertEqual(told[3:], [[1], [0], [0], [1]])

    def test_always_and_never(self):
        for minute in (0, 1000, 100000):
            self.assertEqual(last(*ALWAYS, ("dry", 0, minute)), [1])
            self.assertEqual(last(*NEVER, ("dry", 0, minute)), [0])

    def test_a_bed_at_0_is_never_dry(self):
        self.assertEqual(last(("begin", 0), ("bed", 0), ("dry", 0, 0)), [0])
        self.assertEqual(last(("begin", 0), ("bed", 1), ("dry", 0, 0)), [1])

    def test_the_highest_bed_and_the_highest_water(self):
        highest = [("begin", 10000)] + [("wave", 2, 1000, 0)] * 4
        told = run(*highest, ("bed", 20000), ("bed", 14000), ("bed", 14001), ("dry", 0, 1), ("dry", 1, 1),
                   ("dry", 2, 1), ("dry", 1, 0))
        self.assertEqual(told[8:], [[1], [0], [1], [1]])

    def test_a_new_wave_and_the_minute_now(self):
        told = run(("begin", 0), ("bed", 5), ("dry", 0, 5), ("wave", 10, 10, 0), ("dry", 0, 5), ("minutes", 5),
                   ("dry", 0, 0), ("dry", 0, 5))
        self.assertEqual(told[2:], [[1], [0], [0], [5, 10], [1], [0]])


class Next(unittest.TestCase):
    def test_ordinary(self):
        told = run(*OFTEN, ("next", 0, 0), ("next", 0, 2), ("next", 0, 3), ("next", 0, 8), ("next", 0, 10),
                   ("next", 0, 12), ("next", 0, 13))
        self.assertEqual(told[3:], [[0, 3], [2, 1], [8, 5], [8, 5], [10, 3], [12, 1], [18, 5]])

    def test_the_last_minute_of_the_span(self):
        self.assertEqual(last(*LOW, ("next", 0, 402)), [1901, 199])
        self.assertEqual(last(*LOW, ("next", 0, 401)), [1901, 199])
        self.assertEqual(last(*LOW, ("next", 0, 400)), NOT_SO_SOON)
        self.assertEqual(last(*LOW, ("next", 0, 100)), NOT_SO_SOON)
        self.assertEqual(last(*LOW, ("next", 0, 99)), [99, 1])

    def test_how_long_is_counted_past_the_span(self):
        self.assertEqual(last(*HIGH, ("next", 0, 900)), [1101, 1500])
        self.assertEqual(last(*LOW, ("next", 0, 500)), [1901, 199])

    def test_1500_or_more(self):
        # The last dry minute is 2899.
        self.assertEqual(last(*HIGH, ("next", 0, 1399)), [1399, 1500])
        self.assertEqual(last(*HIGH, ("next", 0, 1400)), [1400, 1500])
        self.assertEqual(last(*HIGH, ("next", 0, 1401)), [1401, 1499])

    def test_always_and_never(self):
        for minute in (0, 777, 100000):
            self.assertEqual(last(*ALWAYS, ("next", 0, minute)), [minute, 1500])
            self.assertEqual(last(*NEVER, ("next", 0, minute)), NOT_SO_SOON)

    def test_dry_at_its_lowest_minute_alone(self):
        lowest = [*SLOPE, ("bed", 1)]
        self.assertEqual(last(*lowest, ("next", 0, 500)), [2000, 1])
        self.assertEqual(last(*lowest, ("next", 0, 499)), NOT_SO_SOON)

    def test_behind_minute_100000(self):
        # 100000 comes again with 0, and so does 102000.
        self.assertEqual(last(*LOW, ("next", 0, 100000)), [100000, 100])
        self.assertEqual(last(("begin", 0), slope(1500), ("bed", 1), ("next", 0, 100000)), [101500, 1])
        self.assertEqual(last(("begin", 0), slope(1501), ("bed", 1), ("next", 0, 100000)), NOT_SO_SOON)


class Wet(unittest.TestCase):
    def test_ordinary(self):
        told = run(*OFTEN, ("wet", 0, 0), ("wet", 0, 2), ("wet", 0, 3), ("wet", 0, 7), ("wet", 0, 8))
        self.assertEqual(told[3:], [[3], [3], [3], [7], [13]])

    def test_just_as_high_as_the_bed(self):
        self.assertEqual(last(*LOW, ("wet", 0, 0)), [100])
        self.assertEqual(last(*LOW, ("wet", 0, 1900)), [1900])

    def test_the_last_minute_of_the_span(self):
        self.assertEqual(last(*HIGH, ("wet", 0, 1401)), [2900])
        self.assertEqual(last(*HIGH, ("wet", 0, 1400)), [2900])
        self.assertEqual(last(*HIGH, ("wet", 0, 1399)), NOT_SO_SOON)
        self.assertEqual(last(*HIGH, ("wet", 0, 1101)), NOT_SO_SOON)
        self.assertEqual(last(*HIGH, ("wet", 0, 1100)), [1100])

    def test_always_and_never(self):
        for minute in (0, 777, 100000):
            self.assertEqual(last(*ALWAYS, ("wet", 0, minute)), NOT_SO_SOON)
            self.assertEqual(last(*NEVER, ("wet", 0, minute)), [minute])

    def test_behind_minute_100000(self):
        self.assertEqual(last(*LOW, ("wet", 0, 100000)), [100100])
        top = [("begin", 0), slope(500), ("bed", 1000)]
        self.assertEqual(last(*top, ("wet", 0, 100000)), [101500])
        self.assertEqual(last(("begin", 0), slope(501), ("bed", 1000), ("wet", 0, 100000)), NOT_SO_SOON)


class Lasts(unittest.TestCase):
    def test_ordinary(self):
        told = run(*OFTEN, *[("lasts", 0, minute) for minute in range(14)])
        self.assertEqual([answer[0] for answer in told[3:]], [3, 2, 1, 0, 0, 0, 0, 0, 5, 4, 3, 2, 1, 0])

    def test_just_as_high_as_the_bed(self):
        told = run(*LOW, ("lasts", 0, 0), ("lasts", 0, 99), ("lasts", 0, 100), ("lasts", 0, 1900), ("lasts", 0, 1901))
        self.assertEqual(told[3:], [[100], [1], [0], [0], [199]])

    def test_1500_or_more(self):
        for minute, answer in ((1101, 1500), (1399, 1500), (1400, 1500), (1401, 1499), (1402, 1498), (2899, 1),
                               (2900, 0)):
            with self.subTest(minute=minute):
                self.assertEqual(last(*HIGH, ("lasts", 0, minute)), [answer])

    def test_always_and_never(self):
        for minute in (0, 777, 100000):
            self.assertEqual(last(*ALWAYS, ("lasts", 0, minute)), [1500])
            self.assertEqual(last(*NEVER, ("lasts", 0, minute)), [0])

    def test_behind_minute_100000(self):
        self.assertEqual(last(*LOW, ("lasts", 0, 100000)), [100])


class Fits(unittest.TestCase):
    def test_ordinary(self):
        told = run(*OFTEN, ("fits", 0, 0, 3), ("fits", 0, 0, 4), ("fits", 0, 1, 3), ("fits", 0, 1, 2),
                   ("fits", 0, 9, 4), ("fits", 0, 9, 5), ("fits", 0, 3, 1))
        self.assertEqual(told[3:], [[0], [8], [8], [1], [9], [18], [8]])

    def test_range(self):
        for how_many in (1, 300):
            self.assertEqual(last(*ALWAYS, ("fits", 0, 7, how_many)), [7])
        for how_many in (0, 301, 1000, GREATEST):
            self.assertEqual(last(*ALWAYS, ("fits", 0, 7, how_many)), OUT_OF_RANGE)

    def test_just_long_enough_and_a_minute_too_short(self):
        self.assertEqual(last(*LOW, ("fits", 0, 0, 100)), [0])
        self.assertEqual(last(*LOW, ("fits", 0, 0, 101)), NOT_SO_SOON)
        self.assertEqual(last(*LOW, ("fits", 0, 1000, 199)), [1901])
        self.assertEqual(last(*LOW, ("fits", 0, 1000, 200)), NOT_SO_SOON)
        self.assertEqual(last(*LOW, ("fits", 0, 1901, 199)), [1901])
        self.assertEqual(last(*LOW, ("fits", 0, 1902, 199)), NOT_SO_SOON)
        self.assertEqual(last(*LOW, ("fits", 0, 1902, 198)), [1902])
        self.assertEqual(last(*OFTEN, ("fits", 0, 0, 5)), [8])
        self.assertEqual(last(*OFTEN, ("fits", 0, 0, 6)), NOT_SO_SOON)

    def test_the_last_minute_of_the_span(self):
        for how_many in (1, 2, 199):
            with self.subTest(how_many=how_many):
                self.assertEqual(last(*LOW, ("fits", 0, 402, how_many)), [1901])
                self.assertEqual(last(*LOW, ("fits", 0, 401, how_many)), [1901])
                self.assertEqual(last(*LOW, ("fits", 0, 400, how_many)), NOT_SO_SOON)

    def test_a_span_that_ends_in_a_stretch(self):
        # The span from 500 on ends with 2000, the stretch with 2099.
        self.assertEqual(last(*LOW, ("fits", 0, 500, 199)), [1901])
        self.assertEqual(last(*LOW, ("fits", 0, 500, 200)), NOT_SO_SOON)
        # The span from 850 on ends with 2350, the stretch with 2899; the 50 dry minutes at t are too few.
        self.assertEqual(last(*HIGH, ("fits", 0, 850, 300)), [1101])

    def test_the_last_minute_of_the_span_behind_shorter_stretches(self):
        # Dry for one minute in ten, then for three, for four from 1949 on, for five from 1958 on.
        calls = [("begin", 0), ("wave", 10, 1000, 0), slope(0), ("bed", 450)]
        self.assertEqual(last(*calls, ("fits", 0, 500, 4)), [1949])
        self.assertEqual(last(*calls, ("fits", 0, 459, 5)), [1958])
        self.assertEqual(last(*calls, ("fits", 0, 458, 5)), [1958])
        self.assertEqual(last(*calls, ("fits", 0, 457, 5)), NOT_SO_SOON)

    def test_always_and_never(self):
        for minute in (0, 777, 100000):
            self.assertEqual(last(*ALWAYS, ("fits", 0, minute, 300)), [minute])
            self.assertEqual(last(*NEVER, ("fits", 0, minute, 1)), NOT_SO_SOON)

    def test_behind_minute_100000(self):
        self.assertEqual(last(*LOW, ("fits", 0, 100000, 100)), [100000])
        self.assertEqual(last(("begin", 0), slope(1549), ("bed", 50), ("fits", 0, 100000, 99)), [101500])
        self.assertEqual(last(("begin", 0), slope(1550), ("bed", 50), ("fits", 0, 100000, 99)), NOT_SO_SOON)


if __name__ == "__main__":
    unittest.main()
