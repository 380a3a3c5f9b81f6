"""Point 4: through, soonest."""

import itertools
import unittest

from tests.helper import ALWAYS, GREATEST, LOW, NO_SUCH_BED, NOT_SO_SOON, OUT_OF_RANGE, SHORT, SLOPE
from tests.helper import last, run

# Each ten minutes again: bed 0 is dry from 8 to 12, bed 1 from 9 to 11, beds 2 and 4 always, bed 3 at 10, bed 5 never.
SIX = [*SHORT, ("bed", 5), ("bed", 3), ("bed", 11), ("bed", 1), ("bed", 11), ("bed", 0)]

# From minute 0 on they're dry for 60, 120, 180 and 240 minutes; then not before 1761.
DAYS = [*SLOPE, ("bed", 60), ("bed", 120), ("bed", 180), ("bed", 240)]

# Bed 1 is dry from 0 to 99 and from 1901 on, bed 0 always.
TWO = [*SLOPE, ("bed", 1001), ("bed", 100)]

BOTH = ("through", "soonest")


def through(shore, minute, pairs):
    return last(*shore, ("through", minute, pairs))


def soonest(shore, minute, pairs):
    return last(*shore, ("soonest", minute, pairs))


class Refusals(unittest.TestCase):
    def told(self, shore, minute, pairs, answer):
        for name in BOTH:
            with self.subTest(name=name, minute=minute, pairs=pairs[:12]):
                self.assertEqual(last(*shore, (name, minute, pairs)), answer)

    def taken(self, shore, minute, pairs):
        for name in BOTH:
            with self.subTest(name=name, minute=minute, pairs=pairs):
                self.assertGreaterEqual(last(*shore, (name, minute, pairs))[0], minute)

    def test_the_minute(self):
        for minute in (0, 1, 99999, 100000):
            self.taken(SIX, minute, [2, 5])
        for minute in (100001, GREATEST):
            self.told(SIX, minute, [2, 5], OUT_OF_RANGE)

    def test_how_many_beds(self):
        self.told(SIX, 0, [], OUT_OF_RANGE)
        for beds in range(1, 5):
            self.taken(SIX, 0, [0, 1, 1, 1, 2, 1, 3, 1][:2 * beds])
        self.told(SIX, 0, [0, 1, 1, 1, 2, 1, 3, 1, 4, 1], OUT_OF_RANGE)
        self.told(SIX, 0, [0, 1, 1, 1, 2, 1, 3, 1, 4, 1, 5, 1], OUT_OF_RANGE)

    def test_an_odd_number_of_numbers(self):
        for pairs in ([2], [2, 5, 4], [0, 1, 1, 1, 2], [0, 1, 1, 1, 2, 1, 3], [0, 1, 1, 1, 2, 1, 3, 1, 4]):
            self.told(SIX, 0, pairs, OUT_OF_RANGE)

    def test_a_list_of_many_numbers(self):
        for pairs in ([2, 5] * 14500, [2, 5] * 14499 + [2], list(range(29000)), [65535] * 29000):
            self.told(SIX, 0, pairs, OUT_OF_RANGE)

    def test_a_bed_told_twice(self):
        for pairs in ([2, 5, 2, 5], [2, 5, 2, 6], [2, 5, 4, 5, 2, 5], [4, 1, 2, 1, 0, 1, 2, 1],
                      [0, 1, 2, 1, 4, 1, 4, 1]):
            self.told(SIX, 0, pairs, OUT_OF_RANGE)

    def test_minutes_like_another_pair_s_are_no_bed_told_twice(self):
        self.assertEqual(through(SIX, 0, [2, 4, 4, 2]), [6])
        self.assertEqual(through(SIX, 0, [2, 2]), [2])

    def test_how_many_minutes(self):
        for how_many in (1, 2, 59, 60):
            self.taken(SIX, 0, [2, how_many])
            self.taken(SIX, 0, [4, 1, 2, how_many])
        for how_many in (0, 61, 65535):
            self.told(SIX, 0, [2, how_many], OUT_OF_RANGE)
            self.told(SIX, 0, [2, how_many, 4, 1], OUT_OF_RANGE)
            self.told(SIX, 0, [4, 1, 2, how_many], OUT_OF_RANGE)
            self.told(SIX, 0, [0, 1, 1, 1, 4, 1, 2, how_many], OUT_OF_RANGE)

    def test_a_bed_that_is_not_there(self):
        for pairs in ([6, 5], [65535, 60], [2, 5, 6, 5], [6, 5, 2, 5], [0, 1, 1, 1, 2, 1, 6, 1],
                      [6, 1, 7, 1, 8, 1, 9, 1]):
            self.told(SIX, 0, pairs, NO_SUCH_BED)
        self.told(ALWAYS, 0, [1, 5], NO_SUCH_BED)
        self.told(SHORT, 0, [0, 5], NO_SUCH_BED)

    def test_out_of_range_is_told_ahead_of_no_such_bed(self):
        for pairs in ([6, 0], [6, 61], [6, 5, 2, 61], [2, 0, 6, 5], [6, 5, 6, 5], [6], [6, 5, 2], [6, 5, 2, 5, 2, 5],
                      [6, 1, 7, 1, 8, 1, 9, 1, 10, 1]):
            self.told(SIX, 0, pairs, OUT_OF_RANGE)
        self.told(SIX, 100001, [6, 5], OUT_OF_RANGE)

    def test_out_of_range_and_no_such_bed_are_told_ahead_of_none(self):
        self.told(SIX, 0, [5, 1], NOT_SO_SOON)
        self.told(SIX, 0, [5, 61], OUT_OF_RANGE)
        self.told(SIX, 100001, [5, 1], OUT_OF_RANGE)
        self.told(SIX, 0, [5, 1, 6, 1], NO_SUCH_BED)
        self.told(SIX, 0, [6, 1, 5, 1], NO_SUCH_BED)


class OneBed(unittest.TestCase):
    def both(self, shore, minute, pairs, through_at):
        self.assertEqual(through(shore, minute, pairs), [through_at])
        self.assertEqual(soonest(shore, minute, pairs), [through_at, pairs[0]])

    def neither(self, shore, minute, pairs):
        self.assertEqual(through(shore, minute, pairs), NOT_SO_SOON)
        self.assertEqual(soonest(shore, minute, pairs), NOT_SO_SOON)

    def test_a_crew_that_need_not_wait(self):
        self.both(SIX, 0, [0, 3], 3)
        self.both(SIX, 8, [0, 5], 13)
        self.both(SIX, 10, [3, 1], 11)
        self.both(ALWAYS, 777, [0, 60], 837)

    def test_a_crew_that_waits(self):
        self.both(SIX, 0, [0, 4], 12)
        self.both(SIX, 3, [0, 1], 9)
        self.both(SIX, 9, [0, 5], 23)
        self.both(SIX, 1, [3, 1], 11)

    def test_just_long_enough_and_a_minute_too_short(self):
        self.both(SIX, 0, [0, 5], 13)
        self.neither(SIX, 0, [0, 6])
        self.both(SIX, 0, [1, 3], 12)
        self.neither(SIX, 0, [1, 4])
        # From 1971 to 2029 there are 59 dry minutes.
        self.both([*SLOPE, ("bed", 30)], 1000, [0, 59], 2030)
        self.neither([*SLOPE, ("bed", 30)], 1000, [0, 60])
        self.both(LOW, 40, [0, 60], 100)
        self.neither(LOW, 41, [0, 60])

    def test_the_last_minute_of_the_span(self):
        for how_many in (1, 60):
            self.both(LOW, 402, [0, how_many], 1901 + how_many)
            self.both(LOW, 401, [0, how_many], 1901 + how_many)
            self.neither(LOW, 400, [0, how_many])

    def test_never_dry(self):
        self.neither(SIX, 0, [5, 1])

    def test_behind_minute_100000(self):
        self.both(LOW, 100000, [0, 60], 100060)
        self.both([*SLOPE, ("bed", 501)], 100000, [0, 60], 100060)
        self.both([("begin", 0), ("wave", 2000, 1000, 1500), ("bed", 1)], 100000, [0, 1], 101501)
        self.neither([("begin", 0), ("wave", 2000, 1000, 1501), ("bed", 1)], 100000, [0, 1])


class Through(unittest.TestCase):
    def test_the_next_bed_begins_where_the_one_ahead_is_over(self):
        self.assertEqual(through(SIX, 5, [2, 10, 4, 20]), [35])
        self.assertEqual(through(SIX, 0, [0, 2, 3, 1]), [11])
        self.assertEqual(through(SIX, 8, [0, 2, 3, 1]), [11])
        self.assertEqual(through(SIX, 8, [0, 3, 3, 1]), [21])
        self.assertEqual(through(SIX, 9, [3, 1, 0, 2]), [13])
        self.assertEqual(through(SIX, 9, [3, 1, 0, 3]), [21])

    def test_the_order_told(self):
        self.assertEqual(through(SIX, 0, [0, 3, 1, 3]), [12])
        self.assertEqual(through(SIX, 0, [1, 3, 0, 3]), [21])
        self.assertEqual(through(SIX, 0, [2, 7, 0, 3, 1, 1]), [12])
        self.assertEqual(through(SIX, 0, [1, 1, 0, 2, 2, 7]), [10])
        self.assertEqual(through(SIX, 0, [0, 3, 2, 7, 1, 2]), [12])

    def test_four_beds(self):
        self.assertEqual(through(SIX, 0, [0, 3, 1, 3, 2, 7, 3, 1]), [21])
        self.assertEqual(through(SIX, 0, [3, 1, 1, 3, 0, 3, 2, 60]), [81])
        self.assertEqual(through(DAYS, 0, [0, 60, 1, 60, 2, 60, 3, 60]), [240])

    def test_where_only_another_order_can_be(self):
        self.assertEqual(through(TWO, 0, [1, 60, 0, 60]), [120])
        self.assertEqual(through(TWO, 0, [0, 60, 1, 60]), NOT_SO_SOON)
        self.assertEqual(through(TWO, 0, [0, 40, 1, 60]), [100])
        self.assertEqual(through(TWO, 0, [0, 41, 1, 60]), NOT_SO_SOON)

    def test_each_bed_has_a_span_of_its_own(self):
        # Through with the first at 401, and 1901 is the last minute of the span from there on.
        self.assertEqual(through(TWO, 341, [0, 60, 1, 60]), [1961])
        self.assertEqual(through(TWO, 340, [0, 60, 1, 60]), NOT_SO_SOON)
        self.assertEqual(through(TWO, 340, [1, 60, 0, 60]), NOT_SO_SOON)

    def test_a_span_at_each_of_four_beds(self):
        waits = [("begin", 0), ("wave", 1501, 1000, 0)] + [("bed", 1)] * 4
        self.assertEqual(through(waits, 1, [0, 1, 1, 1, 2, 1, 3, 1]), [4 * 1501 + 1])
        self.assertEqual(soonest(waits, 1, [3, 1, 1, 1, 2, 1, 0, 1]), [4 * 1501 + 1, 3, 1, 2, 0])
        longer = [("begin", 0), ("wave", 1502, 1000, 0)] + [("bed", 1)] * 4
        self.assertEqual(through(longer, 2, [0, 1]), [1503])
        self.assertEqual(through(longer, 2, [0, 1, 1, 1]), NOT_SO_SOON)

    def test_a_span_and_60_minutes_at_each_of_four_beds(self):
        # Dry for 60 minutes, from 29 before to 30 behind, each 1560 minutes again.
        longest = [("begin", 0), ("wave", 1560, 1000, 0), ("wave", 1560, 1000, 1)] + [("bed", 76)] * 4
        self.assertEqual(through(longest, 31, [0, 60, 1, 60, 2, 60, 3, 60]), [31 + 4 * 1560])
        self.assertEqual(soonest(longest, 31, [1, 60, 0, 60, 3, 60, 2, 60]), [31 + 4 * 1560, 1, 0, 3, 2])
        self.assertEqual(through(longest, 30, [0, 60]), NOT_SO_SOON)

    def test_no_wave_at_all(self):
        dry = [("begin", 5), ("bed", 6), ("bed", 5), ("bed", 7)]
        self.assertEqual(through(dry, 100000, [2, 60, 0, 60]), [100120])
        self.assertEqual(through(dry, 0, [2, 60, 1, 1]), NOT_SO_SOON)

    def test_it_is_begun_at_t_whatever_minute_it_is(self):
        told = run(*SIX, ("minutes", 500), ("through", 0, [0, 3]), ("work", 0, 1), ("through", 0, [0, 3]), ("state",))
        self.assertEqual(told[-3:], [[501], [3], [0, 501, 0, 1, 6, 2]])


class Soonest(unittest.TestCase):
    def test_an_order_that_is_sooner_than_the_one_told(self):
        self.assertEqual(soonest(SIX, 0, [1, 3, 0, 3]), [12, 0, 1])
        self.assertEqual(soonest(SIX, 0, [0, 3, 1, 3]), [12, 0, 1])
        self.assertEqual(soonest(SIX, 0, [2, 7, 0, 3, 1, 2]), [12, 0, 2, 1])
        self.assertEqual(soonest(SIX, 1, [2, 6, 0, 3, 1, 1]), [11, 1, 2, 0])

    def test_of_two_orders_as_soon_the_bed_told_sooner(self):
        self.assertEqual(soonest(SIX, 5, [2, 10, 4, 20]), [35, 2, 4])
        self.assertEqual(soonest(SIX, 5, [4, 20, 2, 10]), [35, 4, 2])
        dry = [("begin", 0)] + [("bed", 1)] * 6
        self.assertEqual(soonest(dry, 7, [5, 1, 3, 2, 4, 3]), [13, 5, 3, 4])
        self.assertEqual(soonest(dry, 7, [1, 60, 5, 60, 0, 60, 3, 60]), [247, 1, 5, 0, 3])

    def test_as_soon_where_they_differ_behind_the_first_bed(self):
        # Bed 0 is dry at once, or else not before 8: it comes first, the others as told.
        self.assertEqual(soonest(SIX, 0, [2, 7, 4, 6, 0, 3]), [16, 0, 2, 4])
        self.assertEqual(soonest(SIX, 0, [4, 6, 2, 7, 0, 3]), [16, 0, 4, 2])
        self.assertEqual(soonest(SIX, 0, [4, 6, 0, 3, 2, 7]), [16, 0, 4, 2])

    def test_as_soon_where_they_differ_at_the_first_bed(self):
        # 0, 2, 1 and 1, 2, 0 are both through at 11.
        self.assertEqual(soonest(SIX, 0, [2, 7, 0, 3, 1, 1]), [11, 0, 2, 1])
        self.assertEqual(soonest(SIX, 0, [2, 7, 1, 1, 0, 3]), [11, 1, 2, 0])

    def test_as_soon_with_waiting(self):
        # Bed 3 is dry at 10 alone, so whatever is done ahead of it is through at 11.
        self.assertEqual(soonest(SIX, 1, [3, 1, 4, 4, 2, 5]), [11, 4, 2, 3])
        self.assertEqual(soonest(SIX, 1, [3, 1, 2, 5, 4, 4]), [11, 2, 4, 3])

    def test_only_one_order_can_be(self):
        for order in itertools.permutations(range(4)):
            with self.subTest(order=order):
                pairs = [number for bed in order for number in (bed, 60)]
                self.assertEqual(soonest(DAYS, 0, pairs), [240, 0, 1, 2, 3])
                self.assertEqual(through(DAYS, 0, pairs), [240] if order == (0, 1, 2, 3) else NOT_SO_SOON)
        self.assertEqual(soonest(TWO, 0, [0, 60, 1, 60]), [120, 1, 0])

    def test_by_no_order(self):
        self.assertEqual(soonest([*DAYS, ("raise", 3, 239)], 0, [0, 60, 1, 60, 2, 60, 3, 60]), NOT_SO_SOON)
        self.assertEqual(soonest(DAYS, 1, [0, 60, 1, 60, 2, 60, 3, 60]), NOT_SO_SOON)
        self.assertEqual(soonest(TWO, 340, [0, 60, 1, 60]), NOT_SO_SOON)
        self.assertEqual(soonest(SIX, 0, [2, 1, 5, 1]), NOT_SO_SOON)
        self.assertEqual(soonest(SIX, 0, [2, 1, 0, 6, 4, 1]), NOT_SO_SOON)

    def test_the_last_minute_of_a_span(self):
        self.assertEqual(soonest(TWO, 341, [1, 60, 0, 60]), [1961, 0, 1])
        self.assertEqual(soonest(TWO, 340, [1, 60, 0, 60]), NOT_SO_SOON)

    def test_as_told_as_through_with_that_order(self):
        minutes = {0: 3, 1: 2, 2: 7, 3: 1, 4: 9}
        for how_many in (2, 3, 4):
            for beds in itertools.islice(itertools.permutations(range(5), how_many), 0, None, 7):
                pairs = [number for bed in beds for number in (bed, minutes[bed])]
                orders = [[number for bed in order for number in (bed, minutes[bed])]
                          for order in itertools.permutations(beds)]
                told = run(*SIX, ("soonest", 4, pairs), *[("through", 4, order) for order in orders])
                by_order = [answer[0] for answer in told[9:]]
                # The orders come by the bed told sooner, so the first of alike ones is the one to be told.
                first = by_order.index(min(by_order))
                self.assertEqual(told[8], [min(by_order), *orders[first][0::2]])

    def test_behind_minute_100000(self):
        self.assertEqual(soonest(SIX, 100000, [1, 3, 0, 3]), [100012, 0, 1])

    def test_an_order_that_can_be_only_from_a_minute_later_on(self):
        # The water is 206, 200, 204, 208 from 1999 to 2002 and 204, 200, 206 from 2399 to 2401. Bed 0 is dry at 2000
        # and 2400, and 2000 is one minute behind the span from 499 on: then bed 1 must be ahead, from 1999 on.
        shore = [("begin", 0), ("wave", 2000, 1000, 200), ("wave", 400, 1000, 0), ("bed", 201), ("bed", 209)]
        told = run(*shore, ("soonest", 499, [0, 1, 1, 2]), ("through", 499, [0, 1, 1, 2]),
                   ("soonest", 500, [0, 1, 1, 2]), ("through", 500, [1, 2, 0, 1]))
        self.assertEqual(told[5:], [[2401, 1, 0], NOT_SO_SOON, [2003, 0, 1], [2401]])


if __name__ == "__main__":
    unittest.main()
