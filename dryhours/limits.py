"""The numbers of the refusals, and the ranges that the calls keep to."""

NO_SUCH_BED = -2
NOT_BEGUN = -11
NOT_DRY = -16
OUT_OF_RANGE = -22
TOO_MANY = -28
NOT_SO_SOON = -33
TOO_LATE = -75

SPAN = 1500
LAST_MINUTE = 100000
MOST_MINUTES = 1000
MOST_OF_FEW_MINUTES = 300

MOST_BEDS_OF_A_ROUND = 4
MOST_MINUTES_AT_A_BED = 60

HIGHEST_BASE = 10000
HIGHEST_BED = 20000
MOST_BEDS = 6

MOST_WAVES = 4
SHORTEST_WAVE = 2
LONGEST_WAVE = 2000
LOWEST_WAVE = 1
HIGHEST_WAVE = 1000


def is_minute(minute):
    return 0 <= minute <= LAST_MINUTE


def is_how_many(minutes):
    return 1 <= minutes <= MOST_MINUTES


def is_few(minutes):
    """How many minutes fits and least may ask for: fewer than the other calls."""
    return 1 <= minutes <= MOST_OF_FEW_MINUTES


def is_at_a_bed(minutes):
    return 1 <= minutes <= MOST_MINUTES_AT_A_BED


def are_different(beds):
    return len(set(beds)) == len(beds)


def is_bed_height(height):
    return 0 <= height <= HIGHEST_BED


def is_wave(each, high, low):
    if not SHORTEST_WAVE <= each <= LONGEST_WAVE:
        return False
    if not LOWEST_WAVE <= high <= HIGHEST_WAVE:
        return False
    return 0 <= low < each
