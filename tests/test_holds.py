"""What holds: a (in test_waves too), b, c, d and e, over many lines of calls."""

import itertools
import random
import unittest

from tests.helper import run, some_beds, some_line, some_look, some_minute, some_round, some_wave, some_waves
from tests.helper import some_wrong


class AComesAgain(unittest.TestCase):
    def test_as_high_before_as_behind_and_again(self):
        chance = random.Random(2)
        for count in range(60):
            wave = some_wave(chance)
            each, low = wave[1], wave[3]
            lowest = low + each * chance.randint(1, 20)
            away = chance.randrange(each)
            told = run(("begin", 3), wave, ("height", lowest), ("height", lowest - away), ("height", lowest + away),
                       ("height", lowest + away + each))
            self.assertEqual(told[2], [3])
            self.assertEqual(told[3], told[4])
            self.assertEqual(told[4], told[5])


class BWhatLiesHigher(unittest.TestCase):
    def test_dry_whenever_what_lies_lower_is(self):
        chance = random.Random(3)
        for count in range(60):
            waves = [some_wave(chance) for again in range(chance.randint(1, 3))]
            highest = sum(wave[2] for wave in waves) + 1
            lower, higher = sorted((chance.randint(0, highest), chance.randint(0, highest)))
            minute, how_many = some_minute(chance), chance.randint(1, 60)
            told = run(("begin", 0), *waves, ("bed", lower), ("bed", higher),
                       ("dry", 0, minute), ("dry", 1, minute), ("lasts", 0, minute), ("lasts", 1, minute),
                       ("fits", 0, minute, how_many), ("fits", 1, minute, how_many))
            dry, dry_higher, lasts, lasts_higher, fits, fits_higher = [answer[0] for answer in told[-6:]]
            self.assertLessEqual(dry, dry_higher)
            self.assertLessEqual(lasts, lasts_higher)
            if fits >= 0:
                self.assertTrue(minute <= fits_higher <= fits)


def all_rounds(pairs):
    """The round in each order."""
    visits = list(zip(pairs[0::2], pairs[1::2]))
    return [[number for visit in order for number in visit] for order in itertools.permutations(visits)]


def some_shore(chance):
    waves = some_waves(chance, 1, 3)
    return [("begin", 0), *waves, *some_beds(chance, waves, 0, 4)]


class CBegunLater(unittest.TestCase):
    def told_by_order(self, shore, minute, orders):
        """Soonest of the first order, and through of each."""
        told = run(*shore, ("soonest", minute, orders[0]), *[("through", minute, order) for order in orders])
        return told[len(shore)], [answer[0] for answer in told[len(shore) + 1:]]

    def test_by_no_order_sooner_than_told(self):
        chance = random.Random(8)
        rounds = 0
        for count in range(80):
            shore, minute, orders = some_shore(chance), some_minute(chance), all_rounds(some_round(chance, 4))
            soonest, through = self.told_by_order(shore, minute, orders)
            can_be = [ends for ends in through if ends >= 0]
            if not can_be:
                self.assertEqual(soonest, [-33])
                continue
            rounds += 1
            self.assertEqual(soonest[0], min(can_be))
            self.assertEqual(soonest[1:], orders[through.index(min(can_be))][0::2])
            self.assertGreaterEqual(min(can_be), minute + sum(orders[0][1::2]))
        self.assertGreater(rounds, 20)

    def test_begun_later_through_no_sooner(self):
        chance = random.Random(9)
        compared = 0
        for count in range(80):
            shore, minute, orders = some_shore(chance), chance.randrange(99000), all_rounds(some_round(chance, 4))
            later = minute + chance.choice((1, 2, 10, 100, 1000))
            soonest, through = self.told_by_order(shore, minute, orders)
            soonest_later, through_later = self.told_by_order(shore, later, orders)
            for ends, ends_later in zip(through, through_later):
                if ends >= 0 and ends_later >= 0:
                    self.assertLessEqual(ends, ends_later)
                    compared += 1
            # An order that can be only from the later minute on may well be sooner: see test_rounds.
            if all(ends >= 0 for ends, ends_later in zip(through, through_later) if ends_later >= 0):
                if soonest_later[0] >= 0:
                    self.assertLessEqual(soonest[0], soonest_later[0])
        self.assertGreater(compared, 100)


class DStretches(unittest.TestCase):
    def test_all_dry_minutes_and_no_others(self):
        chance = random.Random(10)
        for count in range(40):
            shore, minute, how_many = some_shore(chance), some_minute(chance), chance.randint(1, 100)
            minute = min(minute, 100000 - how_many)
            ask = [("stretches", 0, minute, how_many), ("many", 0, minute, how_many), ("longest", 0, minute, how_many),
                   ("together", minute, how_many, [0])]
            told = run(*shore, *ask, *[("dry", 0, minute + behind) for behind in range(how_many)])[len(shore):]
            stretches, many, longest, together = told[:4]
            dry = [minute + behind for behind in range(how_many) if told[4 + behind] == [1]]
            pairs = list(zip(stretches[1::2], stretches[2::2]))
            self.assertEqual([at for first, length in pairs for at in range(first, first + length)], dry)
            for (first, length), (following, other) in zip(pairs, pairs[1:]):
                self.assertLess(first + length, following)
            self.assertEqual(len(pairs), stretches[0])
            self.assertEqual([len(dry)], many)
            self.assertEqual(many, together)
            if pairs:
                most = max(length for first, length in pairs)
                self.assertEqual(longest, [most, [first for first, length in pairs if length == most][0]])
            else:
                self.assertEqual(longest, [-33])

    def test_a_wave_more_makes_nothing_drier(self):
        chance = random.Random(11)
        for count in range(60):
            shore, minute, how_many = some_shore(chance), some_minute(chance), chance.randint(1, 300)
            pairs = some_round(chance, 4)
            fewer = [("dry", 0, minute), ("lasts", 0, minute), ("many", 0, minute, how_many),
                     ("longest", 0, minute, how_many), ("together", minute, how_many, [0, 1]), ("all", minute)]
            later = [("next", 0, minute), ("fits", 0, minute, min(how_many, 20)), ("through", minute, pairs)]
            higher = [("height", minute), ("highest", minute, how_many), ("lowest", minute, how_many),
                      ("least", minute, how_many)]
            wet = [("wet", 0, minute)]
            before = run(*shore, *fewer, *later, *higher, *wet)[len(shore):]
            told = run(*shore, some_wave(chance), *fewer, *later, *higher, *wet)[len(shore) + 1:]
            for place, call in enumerate(fewer):
                self.assertLessEqual(max(told[place][0], 0), max(before[place][0], 0), call)
            self.assertLessEqual(set(told[5][1:]), set(before[5][1:]))
            for place, call in enumerate(later, start=len(fewer)):
                if before[place][0] >= 0 and told[place][0] >= 0:
                    self.assertGreaterEqual(told[place][0], before[place][0], call)
            for place, call in enumerate(higher, start=len(fewer) + len(later)):
                self.assertGreaterEqual(told[place][0], before[place][0], call)
            if before[-1] != [-33]:
                self.assertTrue(minute <= told[-1][0] <= before[-1][0])


class ENothingChanges(unittest.TestCase):
    def test_looking_and_refusals_between(self):
        chance = random.Random(4)
        for count in range(60):
            calls = some_line(chance)
            alone = run(*calls)
            mixed = []
            for call in calls:
                mixed.append((True, call))
                for again in range(chance.randrange(4)):
                    mixed.append((False, chance.choice((some_look, some_wrong))(chance)))
            told = run(*[call for kept, call in mixed])
            self.assertEqual([answer for (kept, call), answer in zip(mixed, told) if kept], alone)

    def test_what_some_wrong_makes_is_refused(self):
        chance = random.Random(5)
        for count in range(200):
            call = some_wrong(chance)
            told = run(("begin", 0), ("bed", 5), call)
            self.assertLess(told[2][0], 0, call)

    def test_refused_for_what_stands_already(self):
        full = [("begin", 5)] + [("wave", 10, 50, 0)] * 4 + [("bed", 100)] * 6 + [("minutes", 7)]
        refused = [("wave", 10, 50, 0), ("bed", 100), ("work", 0, 7), ("work", 0, 1000)]
        look = [("height", 3), ("dry", 5, 3), ("lasts", 5, 10), ("state",), ("works",), ("look", 0), ("minutes", 1),
                ("raise", 5, 3)]
        told = run(*full, *refused, *look)
        self.assertEqual(told[12:16], [[-28], [-28], [-16], [-16]])
        self.assertEqual(told[16:], run(*full, *look)[12:])

    def test_too_late_changes_nothing(self):
        calls = [("begin", 5), ("bed", 6)] + [("minutes", 1000)] * 99
        told = run(*calls, ("minutes", 999), ("work", 0, 2), ("minutes", 2), ("work", 0, 1), ("work", 0, 1),
                   ("minutes", 1), ("lasts", 0, 100000))
        self.assertEqual(told[-7:], [[99999, 5], [-75], [-75], [100000], [-75], [-75], [1500]])


if __name__ == "__main__":
    unittest.main()
