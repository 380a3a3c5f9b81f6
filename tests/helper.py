"""Calls written by name, handed to the program as one list, and its answers call by call; and calls by chance."""

from dryhours.beds import answers

NAMES = (
    "begin", "wave", "bed", "raise", "minutes", "work",
    "height", "dry", "next", "wet", "lasts", "fits",
    "longest", "many", "stretches", "together", "highest", "lowest", "least",
    "through", "soonest", "all", "works", "look", "state",
)

# How many numbers each call that is built answers where it doesn't refuse.
GIVES = {
    "begin": 1, "wave": 1, "bed": 1, "raise": 1, "minutes": 2, "work": 1,
    "height": 1, "dry": 1, "next": 2, "wet": 1, "lasts": 1, "fits": 1, "longest": 2,
}

GREATEST = 4294967295

NO_SUCH_BED = [-2]
NOT_BEGUN = [-11]
NOT_DRY = [-16]
OUT_OF_RANGE = [-22]
TOO_MANY = [-28]
NOT_SO_SOON = [-33]
TOO_LATE = [-75]


def written(calls):
    """One list of whole numbers. A call is a tuple: its name, its whole numbers, its row as a list."""
    numbers = []
    for name, *told in calls:
        numbers.append(NAMES.index(name))
        for value in told:
            if isinstance(value, list):
                numbers.append(len(value))
                numbers.extend(value)
            else:
                numbers.append(value)
    return numbers


def parted(numbers):
    parts = []
    place = 0
    while place < len(numbers):
        behind = place + 1 + numbers[place]
        if numbers[place] < 1 or behind > len(numbers):
            raise AssertionError(f"a wrong count at place {place} of {numbers}")
        parts.append(numbers[place + 1:behind])
        place = behind
    return parts


def run(*calls):
    """The answers, one list for each call."""
    parts = parted(answers(written(calls)))
    if len(parts) != len(calls):
        raise AssertionError(f"{len(parts)} answers to {len(calls)} calls")
    return parts


def last(*calls):
    """The answer of the last call."""
    return run(*calls)[-1]


# It adds as much as the minute is away from its lowest one, so heights are easy to tell.
def slope(low):
    return ("wave", 2000, 1000, low)


def up_to_minute(minute):
    """Calls that let so many minutes go by."""
    calls = [("minutes", 1000)] * (minute // 1000)
    if minute % 1000:
        calls.append(("minutes", minute % 1000))
    return calls


LOOKS = ("height", "dry", "next", "wet", "lasts", "fits", "longest")


def some_wave(chance):
    each = chance.choice((2, 3, 7, 10, 12, 25, 61, 120, 745, 1999, 2000, chance.randint(2, 2000)))
    return ("wave", each, chance.choice((1, 9, 50, 300, 1000, chance.randint(1, 1000))), chance.randrange(each))


def some_minute(chance):
    anywhere = chance.randrange(100001)
    return chance.choice((0, 1, 99999, 100000, chance.randrange(200), chance.randrange(5000), anywhere))


def some_look(chance):
    """One that only looks, with a bed that is perhaps not there."""
    name = chance.choice(LOOKS)
    minute = some_minute(chance)
    if name == "height":
        return (name, minute)
    bed = chance.randrange(4)
    if name in ("fits", "longest"):
        return (name, bed, minute, chance.choice((1, 2, 5, 30, 299, 300, chance.randint(1, 300))))
    return (name, bed, minute)


def some_wrong(chance):
    """One that is refused, whatever went before."""
    much = chance.choice((100001, GREATEST))
    return chance.choice((
        ("begin", much), ("wave", 1, 5, 0), ("wave", 10, 5, 10), ("wave", 10, 0, 0), ("bed", much),
        ("raise", 6, 5), ("raise", 0, much), ("minutes", 0), ("minutes", 1001), ("work", 6, 1), ("work", 0, 0),
        ("height", much), ("dry", 0, much), ("next", 0, much), ("wet", 0, much), ("lasts", 0, much),
        ("fits", 0, 5, 301), ("fits", 0, 5, 0), ("longest", 0, 5, 1001), ("longest", 0, much, 5),
    ))


def some_change(chance, highest):
    return chance.choice((
        some_wave(chance), ("bed", chance.randint(0, highest)),
        ("raise", chance.randrange(4), chance.randint(0, highest)),
        ("minutes", chance.randint(1, 1000)), ("work", chance.randrange(4), chance.choice((1, 2, 5, 40))),
    ))


def some_line(chance):
    base = chance.choice((0, 1, 40, 10000))
    waves = [some_wave(chance) for count in range(chance.randint(0, 4))]
    highest = base + sum(wave[2] for wave in waves) + 1
    beds = [("bed", chance.randint(base, highest)) for count in range(chance.randint(1, 4))]
    calls = [("begin", base), *waves, *beds]
    for count in range(25):
        kind = chance.randrange(10)
        if kind < 6:
            calls.append(some_look(chance))
        elif kind < 9:
            calls.append(some_change(chance, highest))
        else:
            calls.append(some_wrong(chance))
    return calls
