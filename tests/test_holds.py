"""What holds: a (in test_waves too), b and e, over many lines of calls."""

import random
import unittest

from tests.helper import run, some_line, some_look, some_minute, some_wave, some_wrong


class AComesAgain(unittest.TestCase):
    def test_as_high_before_as_behind_and_again(self):
        chance = random.Random(2)
        for count in range(60):
            wave = some_wave(chance)
            each, low = wave[1], wave[3]
            lowest = low + each * chance.randint(1, 20)
            away = chance.randrange(each)
            told = run(("begin", 3), wave, ("height", lowest), ("height", lowest - away), ("height", lowest + away),
                       ("height", lowest + away + each))
            self.assertEqual(told[2], [3])
            self.assertEqual(told[3], told[4])
            self.assertEqual(told[4], told[5])


class BWhatLiesHigher(unittest.TestCase):
    def test_dry_whenever_what_lies_lower_is(self):
        chance = random.Random(3)
        for count in range(60):
            waves = [some_wave(chance) for again in range(chance.randint(1, 3))]
            highest = sum(wave[2] for wave in waves) + 1
            lower, higher = sorted((chance.randint(0, highest), chance.randint(0, highest)))
            minute, how_many = some_minute(chance), chance.randint(1, 60)
            told = run(("begin", 0), *waves, ("bed", lower), ("bed", higher),
                       ("dry", 0, minute), ("dry", 1, minute), ("lasts", 0, minute), ("lasts", 1, minute),
                       ("fits", 0, minute, how_many), ("fits", 1, minute, how_many))
            dry, dry_higher, lasts, lasts_higher, fits, fits_higher = [answer[0] for answer in told[-6:]]
            self.assertLessEqual(dry, dry_higher)
            self.assertLessEqual(lasts, lasts_higher)
            if fits >= 0:
                self.assertTrue(minute <= fits_higher <= fits)


class ENothingChanges(unittest.TestCase):
    def test_looking_and_refusals_between(self):
        chance = random.Random(4)
        for count in range(60):
            calls = some_line(chance)
            alone = run(*calls)
            mixed = []
            for call in calls:
                mixed.append((True, call))
                for again in range(chance.randrange(4)):
                    mixed.append((False, chance.choice((some_look, some_wrong))(chance)))
            told = run(*[call for kept, call in mixed])
            self.assertEqual([answer for (kept, call), answer in zip(mixed, told) if kept], alone)

    def test_what_some_wrong_makes_is_refused(self):
        chance = random.Random(5)
        for count in range(200):
            call = some_wrong(chance)
            told = run(("begin", 0), ("bed", 5), call)
            self.assertLess(told[2][0], 0, call)

    def test_refused_for_what_stands_already(self):
        full = [("begin", 5)] + [("wave", 10, 50, 0)] * 4 + [("bed", 100)] * 6 + [("minutes", 7)]
        refused = [("wave", 10, 50, 0), ("bed", 100), ("work", 0, 7), ("work", 0, 1000)]
        look = [("height", 3), ("dry", 5, 3), ("lasts", 5, 10), ("minutes", 1), ("raise", 5, 3)]
        told = run(*full, *refused, *look)
        self.assertEqual(told[12:16], [[-28], [-28], [-16], [-16]])
        self.assertEqual(told[16:], run(*full, *look)[12:])

    def test_too_late_changes_nothing(self):
        calls = [("begin", 5), ("bed", 6)] + [("minutes", 1000)] * 99
        told = run(*calls, ("minutes", 999), ("work", 0, 2), ("minutes", 2), ("work", 0, 1), ("work", 0, 1),
                   ("minutes", 1), ("lasts", 0, 100000))
        self.assertEqual(told[-7:], [[99999, 5], [-75], [-75], [100000], [-75], [-75], [1500]])


if __name__ == "__main__":
    unittest.main()
