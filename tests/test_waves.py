"""What a wave adds, and the water's height. (What the document says ahead of point 1, and point 2's height.)"""

import unittest

from tests.helper import GREATEST, OUT_OF_RANGE, last, run


def heights(base, waves, minutes):
    """The water's height at each of these minutes."""
    calls = [("begin", base)] + [("wave", *wave) for wave in waves]
    told = run(*calls, *[("height", minute) for minute in minutes])
    return [answer[0] for answer in told[len(calls):]]


class OneWave(unittest.TestCase):
    def test_an_even_number_of_minutes(self):
        self.assertEqual(heights(0, [(10, 50, 0)], range(12)), [0, 10, 20, 30, 40, 50, 40, 30, 20, 10, 0, 10])

    def test_an_odd_number_of_minutes(self):
        # 50 * 2 * 1 // 7, 50 * 2 * 2 // 7, 50 * 2 * 3 // 7: halfway lies between two minutes.
        self.assertEqual(heights(0, [(7, 50, 0)], range(9)), [0, 14, 28, 42, 42, 28, 14, 0, 14])

    def test_rounded_down(self):
        self.assertEqual(heights(0, [(10, 7, 0)], range(6)), [0, 1, 2, 4, 5, 7])
        self.assertEqual(heights(0, [(3, 1, 0)], range(4)), [0, 0, 0, 0])
        self.assertEqual(heights(0, [(3, 2, 0)], range(4)), [0, 1, 1, 0])

    def test_before_and_behind_its_lowest_minute_alike(self):
        for each in (10, 11):
            for away in range(each):
                with self.subTest(each=each, away=away):
                    before, behind = heights(0, [(each, 37, 4)], [4 + 10 * each - away, 4 + 10 * each + away])
                    self.assertEqual(before, behind)

    def test_it_comes_again(self):
        for each in (2, 3, 10, 11, 1999, 2000):
            minutes = range(0, each, max(1, each // 20))
            first = heights(0, [(each, 913, each // 3)], minutes)
            for times in (1, 2, 49):
                again = heights(0, [(each, 913, each // 3)], [minute + times * each for minute in minutes])
                self.assertEqual(first, again)

    def test_its_lowest_minute_is_0(self):
        self.assertEqual(heights(5, [(6, 30, 0)], range(7)), [5, 15, 25, 35, 25, 15, 5])

    def test_its_lowest_minute_is_the_last_that_it_may_be(self):
        # At minute 0 it's one minute behind its lowest, not five ahead of it.
        self.assertEqual(heights(5, [(6, 30, 5)], range(7)), [15, 25, 35, 25, 15, 5, 15])

    def test_ahead_of_its_first_lowest_minute(self):
        self.assertEqual(heights(0, [(10, 50, 3)], range(4)), [30, 20, 10, 0])
        self.assertEqual(heights(0, [(10, 50, 8)], range(9)), [20, 30, 40, 50, 40, 30, 20, 10, 0])

    def test_the_shortest_and_the_longest(self):
        self.assertEqual(heights(0, [(2, 1000, 0)], range(4)), [0, 1000, 0, 1000])
        self.assertEqual(heights(0, [(2, 1000, 1)], range(4)), [1000, 0, 1000, 0])
        self.assertEqual(heights(0, [(2000, 1000, 0)], [0, 1, 999, 1000, 1001, 1999, 2000]),
                         [0, 1, 999, 1000, 999, 1, 0])
        self.assertEqual(heights(0, [(2000, 1000, 1999)], [0, 998, 999, 1000, 1998, 1999, 2000]),
                         [1, 999, 1000, 999, 1, 0, 1])

    def test_the_lowest_height(self):
        self.assertEqual(heights(0, [(10, 1, 0)], range(7)), [0, 0, 0, 0, 0, 1, 0])

    def test_halfway_it_adds_its_height_where_that_is_a_minute(self):
        for each in (2, 4, 10, 2000):
            self.assertEqual(heights(0, [(each, 777, 0)], [each // 2]), [777])

    def test_it_never_adds_more_than_its_height(self):
        for each in (2, 3, 7, 24):
            for low in range(each):
                for height in heights(0, [(each, 9, low)], range(2 * each)):
                    self.assertTrue(0 <= height <= 9)


class SeveralWaves(unittest.TestCase):
    def test_no_wave(self):
        self.assertEqual(heights(10000, [], [0, 1, 100000]), [10000, 10000, 10000])

    def test_each_is_rounded_down_by_itself(self):
        # 1 * 2 // 3 is 0 each time; together they'd be 4 // 3.
        self.assertEqual(heights(0, [(3, 1, 0), (3, 1, 0)], range(4)), [0, 0, 0, 0])
        self.assertEqual(heights(0, [(4, 1, 0)] * 4, range(5)), [0, 0, 4, 0, 0])

    def test_two_that_are_lowest_together(self):
        self.assertEqual(heights(100, [(4, 8, 0), (6, 30, 0)], [0, 1, 2, 3, 11, 12, 13]),
                         [100, 114, 128, 134, 114, 100, 114])
        self.assertEqual(heights(0, [(10, 50, 3), (10, 20, 3)], [2, 3, 4, 13]), [14, 0, 14, 0])

    def test_four_of_them(self):
        waves = [(10, 50, 0), (7, 50, 1), (2, 9, 1), (2000, 1000, 1999)]
        self.assertEqual(heights(1000, waves, [0, 1, 5]), [1000 + 0 + 14 + 9 + 1, 1000 + 10 + 0 + 0 + 2,
                                                         1000 + 50 + 42 + 0 + 6])

    def test_the_highest_water(self):
        self.assertEqual(heights(10000, [(2, 1000, 0)] * 4, [0, 1]), [10000, 14000])


class Minutes(unittest.TestCase):
    def test_the_last_minute_that_may_be_told(self):
        calls = [("begin", 7), ("wave", 10, 50, 9)]
        self.assertEqual(last(*calls, ("height", 0)), [17])
        self.assertEqual(last(*calls, ("height", 100000)), [17])
        self.assertEqual(last(*calls, ("height", 100001)), OUT_OF_RANGE)
        self.assertEqual(last(*calls, ("height", GREATEST)), OUT_OF_RANGE)


if __name__ == "__main__":
    unittest.main()
