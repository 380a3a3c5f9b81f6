"""The document's words once more, as slowly and as plainly as they stand, and the program held against them."""

import itertools
import random
import unittest

from tests.helper import WITH_A_BED, gives, run, some_edge, some_line


class Words:
    def __init__(self):
        self.begun = False
        self.seen = {}

    def answer(self, name, *told):
        if name == "begin":
            return self.begin(*told)
        if not self.begun:
            return [-11]
        if name in WITH_A_BED and told[0] not in self.beds:
            return [-2]
        return getattr(self, "tell_" + name)(*told)

    def begin(self, base):
        if base > 10000:
            return [-22]
        self.begun, self.base, self.now = True, base, 0
        self.waves, self.beds, self.worked = (), {}, {}
        return [0]

    def water(self, minute):
        # Only that it doesn't take so long: it's the same for the same waves.
        if (self.base, self.waves, minute) not in self.seen:
            added = sum(self.added(wave, minute) for wave in self.waves)
            self.seen[self.base, self.waves, minute] = self.base + added
        return self.seen[self.base, self.waves, minute]

    def added(self, wave, minute):
        each, high, low = wave
        came = minute // each
        away = min(abs(minute - (low + each * times)) for times in (came - 1, came, came + 1))
        return (high * away * 2) // each

    def dry(self, bed, minute):
        return self.water(minute) < self.beds[bed]

    def dry_map(self, bed, minute, how_many):
        return [self.dry(bed, minute + count) for count in range(how_many)]

    def run_length(self, dry):
        return (dry + [False]).index(False)

    def tell_wave(self, each, high, low):
        if each not in range(2, 2001) or high not in range(1, 1001) or low not in range(each):
            return [-22]
        if len(self.waves) == 4:
            return [-28]
        self.waves += ((each, high, low),)
        return [len(self.waves) - 1]

    def tell_bed(self, height):
        if height > 20000:
            return [-22]
        if len(self.beds) == 6:
            return [-28]
        self.worked[len(self.beds)] = 0
        self.beds[len(self.beds)] = height
        return [len(self.beds) - 1]

    def tell_raise(self, bed, height):
        if height > 20000:
            return [-22]
        lay, self.beds[bed] = self.beds[bed], height
        return [lay]

    def tell_minutes(self, how_many):
        if how_many not in range(1, 1001):
            return [-22]
        if self.now + how_many > 100000:
            return [-75]
        self.now += how_many
        return [self.now, self.water(self.now)]

    def tell_work(self, bed, how_many):
        if how_many not in range(1, 1001):
            return [-22]
        if self.now + how_many > 100000:
            return [-75]
        if not all(self.dry_map(bed, self.now, how_many)):
            return [-16]
        self.now += how_many
        self.worked[bed] += how_many
        return [self.now]

    def tell_height(self, minute):
        return [-22] if minute > 100000 else [self.water(minute)]

    def tell_dry(self, bed, minute):
        return [-22] if minute > 100000 else [int(self.dry(bed, minute))]

    def tell_next(self, bed, minute):
        if minute > 100000:
            return [-22]
        dry = self.dry_map(bed, minute, 3001)
        if True not in dry[:1501]:
            return [-33]
        first = dry.index(True)
        return [minute + first, self.run_length(dry[first:first + 1500])]

    def tell_wet(self, bed, minute):
        if minute > 100000:
            return [-22]
        dry = self.dry_map(bed, minute, 1501)
        return [minute + dry.index(False)] if False in dry else [-33]

    def tell_lasts(self, bed, minute):
        if minute > 100000:
            return [-22]
        return [self.run_length(self.dry_map(bed, minute, 1500))]

    def tell_fits(self, bed, minute, how_many):
        if minute > 100000 or how_many not in range(1, 301):
            return [-22]
        dry = self.dry_map(bed, minute, 1501 + how_many)
        for first in range(1501):
            if all(dry[first:first + how_many]):
                return [minute + first]
        return [-33]

    def tell_longest(self, bed, minute, how_many):
        if minute > 100000 or how_many not in range(1, 1001):
            return [-22]
        dry = self.dry_map(bed, minute, how_many)
        lengths = [self.run_length(dry[first:]) for first in range(how_many)]
        if max(lengths) == 0:
            return [-33]
        return [max(lengths), minute + lengths.index(max(lengths))]


    def tell_many(self, bed, minute, how_many):
        if minute > 100000 or how_many not in range(1, 1001):
            return [-22]
        return [self.dry_map(bed, minute, how_many).count(True)]

    def tell_stretches(self, bed, minute, how_many):
        if minute > 100000 or how_many not in range(1, 1001):
            return [-22]
        told, at = [], minute
        for dry, alike in itertools.groupby(self.dry_map(bed, minute, how_many)):
            length = len(list(alike))
            if dry:
                told += [at, length]
            at += length
        return [len(told) // 2, *told]

    def tell_together(self, minute, how_many, beds):
        if minute > 100000 or how_many not in range(1, 1001) or len(beds) > 6 or len(beds) != len(set(beds)):
            return [-22]
        if not all(bed in self.beds for bed in beds):
            return [-2]
        return [sum(all(self.dry(bed, minute + count) for bed in beds) for count in range(how_many))]

    def tell_highest(self, minute, how_many):
        if minute > 100000 or how_many not in range(1, 1001):
            return [-22]
        water, before = max((self.water(minute + count), -count) for count in range(how_many))
        return [water, minute - before]

    def tell_lowest(self, minute, how_many):
        if minute > 100000 or how_many not in range(1, 1001):
            return [-22]
        water, behind = min((self.water(minute + count), count) for count in range(how_many))
        return [water, minute + behind]

    def tell_least(self, minute, how_many):
        if minute > 100000 or how_many not in range(1, 301):
            return [-22]
        waters = [self.water(minute + count) for count in range(how_many)]
        return [next(height for height in itertools.count() if all(water < height for water in waters))]

    def pairs(self, minute, row):
        """The pairs of a round, or what it's refused with."""
        pairs = list(zip(row[0::2], row[1::2]))
        as_told = len(row) % 2 == 0 and 1 <= len(pairs) <= 4 and len(dict(pairs)) == len(pairs)
        if minute > 100000 or not as_told or not all(1 <= minutes <= 60 for bed, minutes in pairs):
            return [-22]
        if not all(bed in self.beds for bed, minutes in pairs):
            return [-2]
        return pairs

    def crew(self, minute, pairs):
        """When it's through, or None."""
        for bed, minutes in pairs:
            for begins in range(minute, minute + 1501):
                if all(self.dry(bed, begins + count) for count in range(minutes)):
                    minute = begins + minutes
                    break
            else:
                return None
        return minute

    def tell_through(self, minute, row):
        pairs = self.pairs(minute, row)
        if pairs in ([-22], [-2]):
            return pairs
        ends = self.crew(minute, pairs)
        return [-33] if ends is None else [ends]

    def tell_soonest(self, minute, row):
        pairs = self.pairs(minute, row)
        if pairs in ([-22], [-2]):
            return pairs
        told = []
        for order in itertools.permutations(range(len(pairs))):
            ends = self.crew(minute, [pairs[place] for place in order])
            if ends is not None:
                told.append((ends, order))
        if not told:
            return [-33]
        ends, order = min(told)
        return [ends, *[pairs[place][0] for place in order]]

    def tell_all(self, minute):
        if minute > 100000:
            return [-22]
        dry = [bed for bed in self.beds if self.dry(bed, minute)]
        return [len(dry), *dry]

    def tell_works(self):
        return [len(self.beds), *self.worked.values()]

    def tell_look(self, bed):
        return [self.beds[bed], self.worked[bed], int(self.dry(bed, self.now))]

    def tell_state(self):
        return [0, self.now, self.base, len(self.waves), len(self.beds), self.water(self.now)]


class AgainstTheWords(unittest.TestCase):
    def held_against(self, calls):
        words = Words()
        for call, answer in zip(calls, run(*calls)):
            self.assertEqual(answer, words.answer(*call), (call, calls))
            self.assertEqual(len(answer), gives(call, answer), call)

    def test_many_lines(self):
        chance = random.Random(1)
        for count in range(150):
            self.held_against(some_line(chance))

    def test_values_at_the_edges_of_all_that_may_be_handed_in(self):
        chance = random.Random(7)
        for count in range(40):
            ready = [("begin", 5), ("wave", 12, 30, 3), ("bed", 20), ("bed", 36), ("bed", 9), ("bed", 6)]
            self.held_against(ready + [some_edge(chance) for again in range(100)])
            self.held_against([some_edge(chance) for again in range(30)])


if __name__ == "__main__":
    unittest.main()
