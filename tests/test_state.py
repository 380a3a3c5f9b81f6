"""Point 5: all, works, look, state."""

import unittest

from tests.helper import GREATEST, NO_SUCH_BED, NOT_DRY, OFTEN, OUT_OF_RANGE, SHORT, TOO_LATE
from tests.helper import last, run, up_to_minute

# Two that are dry without a wave, with one between them that isn't.
THREE = [("begin", 5), ("bed", 6), ("bed", 5), ("bed", 7)]


class All(unittest.TestCase):
    def test_no_bed(self):
        self.assertEqual(last(*SHORT, ("all", 0)), [0])

    def test_none_some_and_all_of_them(self):
        beds = [*SHORT, ("bed", 5), ("bed", 0), ("bed", 9), ("bed", 3)]
        for minute, answer in ((0, [3, 0, 2, 3]), (2, [2, 0, 2]), (4, [1, 2]), (5, [0]), (9, [3, 0, 2, 3])):
            with self.subTest(minute=minute):
                self.assertEqual(last(*beds, ("all", minute)), answer)
        six = [*SHORT, *[("bed", 11)] * 6]
        self.assertEqual(last(*six, ("all", 5)), [6, 0, 1, 2, 3, 4, 5])
        self.assertEqual(last(*six, ("raise", 5, 10), ("all", 5)), [5, 0, 1, 2, 3, 4])

    def test_just_as_high_as_the_bed(self):
        self.assertEqual(last(*THREE, ("all", 0)), [2, 0, 2])

    def test_the_minute(self):
        for minute in (0, 1, 99999, 100000):
            self.assertEqual(last(*THREE, ("all", minute)), [2, 0, 2])
        for minute in (100001, GREATEST):
            self.assertEqual(last(*THREE, ("all", minute)), OUT_OF_RANGE)
            self.assertEqual(last(("begin", 0), ("all", minute)), OUT_OF_RANGE)

    def test_it_is_of_the_minute_told_not_of_now(self):
        self.assertEqual(run(*OFTEN, ("minutes", 5), ("all", 0), ("all", 5))[4:], [[1, 0], [0]])


class Works(unittest.TestCase):
    def test_no_bed(self):
        self.assertEqual(last(("begin", 0), ("works",)), [0])

    def test_no_work_yet(self):
        self.assertEqual(last(*THREE, ("works",)), [3, 0, 0, 0])

    def test_bed_by_bed(self):
        told = run(*THREE, ("work", 0, 10), ("works",), ("work", 2, 3), ("work", 0, 1), ("works",))
        self.assertEqual((told[5], told[8]), ([3, 10, 0, 0], [3, 11, 0, 3]))

    def test_six_beds(self):
        six = [("begin", 0)] + [("bed", 1)] * 6 + [("work", bed, 10 + bed) for bed in range(6)]
        self.assertEqual(last(*six, ("works",)), [6, 10, 11, 12, 13, 14, 15])

    def test_refused_it_does_not_count(self):
        told = run(*THREE, ("work", 0, 10), ("work", 1, 10), ("work", 0, 1001), ("work", 3, 1), ("works",))
        self.assertEqual(told[5:], [NOT_DRY, OUT_OF_RANGE, NO_SUCH_BED, [3, 10, 0, 0]])
        late = run(*THREE, ("work", 2, 7), *up_to_minute(99990), ("work", 2, 4), ("works",))
        self.assertEqual(late[-2:], [TOO_LATE, [3, 0, 0, 7]])

    def test_minutes_that_go_by_are_no_work(self):
        self.assertEqual(last(*THREE, ("minutes", 1000), ("works",)), [3, 0, 0, 0])

    def test_it_stays_when_the_bed_is_raised_or_one_more_comes(self):
        told = run(*THREE, ("work", 0, 10), ("raise", 0, 3), ("works",), ("bed", 9), ("works",))
        self.assertEqual((told[6], told[8]), ([3, 10, 0, 0], [4, 10, 0, 0, 0]))

    def test_a_new_begin_forgets_it(self):
        told = run(*THREE, ("work", 0, 10), ("begin", 10001), ("works",), ("begin", 5), ("works",), ("bed", 6),
                   ("works",))
        self.assertEqual(told[5:], [OUT_OF_RANGE, [3, 10, 0, 0], [0], [0], [0], [1, 0]])

    def test_as_many_as_the_minutes_allow(self):
        always = [("begin", 0), ("bed", 1)]
        self.assertEqual(last(*always, *[("work", 0, 1000)] * 100, ("works",)), [1, 100000])
        self.assertEqual(last(*always, *[("work", 0, 1000)] * 101, ("look", 0)), [1, 100000, 1])


class Look(unittest.TestCase):
    def test_before_and_after_work_and_raise(self):
        told = run(*OFTEN, ("look", 0), ("work", 0, 2), ("look", 0), ("minutes", 1), ("look", 0), ("raise", 0, 9),
                   ("look", 0), ("minutes", 2), ("look", 0), ("minutes", 4), ("work", 0, 4), ("look", 0))
        self.assertEqual([told[place] for place in (3, 5, 7, 9, 11, 14)],
                         [[5, 0, 1], [5, 2, 1], [5, 2, 0], [9, 2, 1], [9, 2, 0], [9, 6, 1]])

    def test_just_as_high_as_the_bed(self):
        self.assertEqual(run(*THREE, ("look", 0), ("look", 1), ("look", 2))[4:], [[6, 0, 1], [5, 0, 0], [7, 0, 1]])

    def test_a_wave_more(self):
        told = run(*THREE, ("wave", 2, 1, 1), ("look", 0), ("look", 2), ("minutes", 1), ("look", 0))
        self.assertEqual(told[5:], [[6, 0, 0], [7, 0, 1], [1, 5], [6, 0, 1]])

    def test_the_lowest_and_the_highest_bed(self):
        told = run(("begin", 0), ("bed", 0), ("bed", 20000), ("look", 0), ("look", 1))
        self.assertEqual(told[3:], [[0, 0, 0], [20000, 0, 1]])

    def test_no_such_bed(self):
        self.assertEqual(last(("begin", 0), ("look", 0)), NO_SUCH_BED)
        for bed in (3, 4, 65536, GREATEST):
            self.assertEqual(last(*THREE, ("look", bed)), NO_SUCH_BED)
        six = [("begin", 0)] + [("bed", 1)] * 6
        self.assertEqual(run(*six, ("look", 5), ("look", 6))[7:], [[1, 0, 1], NO_SUCH_BED])


class State(unittest.TestCase):
    def test_right_after_begin(self):
        for base in (0, 7, 10000):
            self.assertEqual(last(("begin", base), ("state",)), [0, 0, base, 0, 0, base])

    def test_after_waves_beds_minutes_and_work(self):
        told = run(("begin", 100), ("wave", 10, 10, 5), ("state",), ("wave", 4, 8, 0), ("bed", 111), ("state",),
                   ("minutes", 3), ("state",), ("work", 0, 2), ("state",), ("raise", 0, 5), ("state",),
                   ("bed", 9), ("bed", 9), ("state",))
        self.assertEqual([told[place] for place in (2, 5, 7, 9, 11, 14)],
                         [[0, 0, 100, 1, 0, 110], [0, 0, 100, 2, 1, 110], [0, 3, 100, 2, 1, 108],
                          [0, 5, 100, 2, 1, 104], [0, 5, 100, 2, 1, 104], [0, 5, 100, 2, 3, 104]])

    def test_all_there_may_be(self):
        full = [("begin", 10000), *[("wave", 2, 1000, 1)] * 4, *[("bed", 20000)] * 6, *up_to_minute(100000)]
        self.assertEqual(last(*full, ("state",)), [0, 100000, 10000, 4, 6, 14000])
        self.assertEqual(last(*full, ("wave", 2, 5, 0), ("bed", 5), ("minutes", 1), ("state",)),
                         [0, 100000, 10000, 4, 6, 14000])

    def test_a_new_begin(self):
        told = run(*THREE, ("wave", 10, 5, 5), ("minutes", 4), ("begin", 10001), ("state",), ("begin", 8), ("state",))
        self.assertEqual(told[7:], [[0, 4, 5, 1, 3, 6], [0], [0, 0, 8, 0, 0, 8]])


if __name__ == "__main__":
    unittest.main()
