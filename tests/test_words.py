"""The document's words once more, as slowly and as plainly as they stand, and the program held against them."""

import random
import unittest

from tests.helper import GIVES, run, some_line


class Words:
    def __init__(self):
        self.begun = False

    def answer(self, name, *told):
        if name == "begin":
            return self.begin(*told)
        if not self.begun:
            return [-11]
        if name in ("raise", "work", "dry", "next", "wet", "lasts", "fits", "longest") and told[0] not in self.beds:
            return [-2]
        return getattr(self, "tell_" + name)(*told)

    def begin(self, base):
        if base > 10000:
            return [-22]
        self.begun, self.base, self.now = True, base, 0
        self.waves, self.beds = [], {}
        return [0]

    def water(self, minute):
        return self.base + sum(self.added(wave, minute) for wave in self.waves)

    def added(self, wave, minute):
        each, high, low = wave
        came = minute // each
        away = min(abs(minute - (low + each * times)) for times in (came - 1, came, came + 1))
        return (high * away * 2) // each

    def dry(self, bed, minute):
        return self.water(minute) < self.beds[bed]

    def dry_map(self, bed, minute, how_many):
        return [self.dry(bed, minute + count) for count in range(how_many)]

    def run_length(self, dry):
        return (dry + [False]).index(False)

    def tell_wave(self, each, high, low):
        if each not in range(2, 2001) or high not in range(1, 1001) or low not in range(each):
            return [-22]
        if len(self.waves) == 4:
            return [-28]
        self.waves.append((each, high, low))
        return [len(self.waves) - 1]

    def tell_bed(self, height):
        if height > 20000:
            return [-22]
        if len(self.beds) == 6:
            return [-28]
        self.beds[len(self.beds)] = height
        return [len(self.beds) - 1]

    def tell_raise(self, bed, height):
        if height > 20000:
            return [-22]
        lay, self.beds[bed] = self.beds[bed], height
        return [lay]

    def tell_minutes(self, how_many):
        if how_many not in range(1, 1001):
            return [-22]
        if self.now + how_many > 100000:
            return [-75]
        self.now += how_many
        return [self.now, self.water(self.now)]

    def tell_work(self, bed, how_many):
        if how_many not in range(1, 1001):
            return [-22]
        if self.now + how_many > 100000:
            return [-75]
        if not all(self.dry_map(bed, self.now, how_many)):
            return [-16]
        self.now += how_many
        return [self.now]

    def tell_height(self, minute):
        return [-22] if minute > 100000 else [self.water(minute)]

    def tell_dry(self, bed, minute):
        return [-22] if minute > 100000 else [int(self.dry(bed, minute))]

    def tell_next(self, bed, minute):
        if minute > 100000:
            return [-22]
        dry = self.dry_map(bed, minute, 3001)
        if True not in dry[:1501]:
            return [-33]
        first = dry.index(True)
        return [minute + first, self.run_length(dry[first:first + 1500])]

    def tell_wet(self, bed, minute):
        if minute > 100000:
            return [-22]
        dry = self.dry_map(bed, minute, 1501)
        return [minute + dry.index(False)] if False in dry else [-33]

    def tell_lasts(self, bed, minute):
        if minute > 100000:
            return [-22]
        return [self.run_length(self.dry_map(bed, minute, 1500))]

    def tell_fits(self, bed, minute, how_many):
        if minute > 100000 or how_many not in range(1, 301):
            return [-22]
        dry = self.dry_map(bed, minute, 1501 + how_many)
        for first in range(1501):
            if all(dry[first:first + how_many]):
                return [minute + first]
        return [-33]

    def tell_longest(self, bed, minute, how_many):
        if minute > 100000 or how_many not in range(1, 1001):
            return [-22]
        dry = self.dry_map(bed, minute, how_many)
        lengths = [self.run_length(dry[first:]) for first in range(how_many)]
        if max(lengths) == 0:
            return [-33]
        return [max(lengths), minute + lengths.index(max(lengths))]


class AgainstTheWords(unittest.TestCase):
    def test_many_lines(self):
        chance = random.Random(1)
        for count in range(150):
            calls = some_line(chance)
            words = Words()
            for call, answer in zip(calls, run(*calls)):
                self.assertEqual(answer, words.answer(*call), (call, calls))
                self.assertEqual(len(answer), 1 if answer[0] < 0 else GIVES[call[0]])


if __name__ == "__main__":
    unittest.main()
