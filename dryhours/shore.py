"""What one list of calls is about: the water with its waves, and the beds."""


class Wave:
    def __init__(self, each, high, low):
        self.each = each
        self.low = low
        # Kept, as it comes again: by how many minutes it is since its lowest one, what it adds.
        self.added = [high * 2 * min(since, each - since) // each for since in range(each)]

    def adds_at(self, minute):
        return self.added[(minute - self.low) % self.each]

    def adds_from(self, minute, how_many):
        """What it adds at each of so many minutes from this one on."""
        since_lowest = (minute - self.low) % self.each
        times = (since_lowest + how_many) // self.each + 1
        return (self.added * times)[since_lowest:since_lowest + how_many]


class Bed:
    def __init__(self, height):
        self.height = height
        self.worked = 0


class Shore:
    def __init__(self):
        self.begun = False
        self.base = 0
        self.minute = 0
        self.waves = []
        self.beds = []

    def begin_afresh(self, base):
        self.begun = True
        self.base = base
        self.minute = 0
        self.waves = []
        self.beds = []

    def has_bed(self, bed):
        return 0 <= bed < len(self.beds)

    def has_beds(self, beds):
        return all([self.has_bed(bed) for bed in beds])

    def water_at(self, minute):
        water = self.base
        for wave in self.waves:
            water += wave.adds_at(minute)
        return water

    def waters_from(self, minute, how_many):
        """The water's height at each of so many minutes from this one on."""
        waters = [self.base] * how_many
        for wave in self.waves:
            waters = [water + added for water, added in zip(waters, wave.adds_from(minute, how_many))]
        return waters

    def is_dry(self, bed, minute):
        return self.water_at(minute) < self.beds[bed].height
