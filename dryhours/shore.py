"""What one list of calls is about: the water with its waves, and the beds."""


class Wave:
    def __init__(self, each, high, low):
        self.each = each
        self.high = high
        self.low = low

    def adds_at(self, minute):
        since_lowest = (minute - self.low) % self.each
        until_lowest = self.each - since_lowest
        away = min(since_lowest, until_lowest)
        return self.high * 2 * away // self.each


class Bed:
    def __init__(self, height):
        self.height = height
        self.worked = 0


class Shore:
    def __init__(self):
        self.begun = False
        self.base = 0
        self.minute = 0
        self.waves = []
        self.beds = []

    def begin_afresh(self, base):
        self.begun = True
        self.base = base
        self.minute = 0
        self.waves = []
        self.beds = []

    def has_bed(self, bed):
        return 0 <= bed < len(self.beds)

    def water_at(self, minute):
        water = self.base
        for wave in self.waves:
            water += wave.adds_at(minute)
        return water

    def is_dry(self, bed, minute):
        return self.water_at(minute) < self.beds[bed].height
