"""Calls written by name, handed to the program as one list, and its answers call by call; and calls by chance."""

from dryhours.beds import answers

NAMES = (
    "begin", "wave", "bed", "raise", "minutes", "work",
    "height", "dry", "next", "wet", "lasts", "fits",
    "longest", "many", "stretches", "together", "highest", "lowest", "least",
    "through", "soonest", "all", "works", "look", "state",
)

# How many whole numbers each call has, ahead of its row if it has one.
HAS = (1, 3, 1, 2, 1, 2, 1, 2, 2, 2, 2, 3, 3, 3, 3, 2, 2, 2, 2, 1, 1, 1, 0, 1, 0)

WITH_A_ROW = ("together", "through", "soonest")
WITH_A_BED = ("raise", "work", "dry", "next", "wet", "lasts", "fits", "longest", "many", "stretches", "look")

GREATEST = 4294967295

NO_SUCH_BED = [-2]
NOT_BEGUN = [-11]
NOT_DRY = [-16]
OUT_OF_RANGE = [-22]
TOO_MANY = [-28]
NOT_SO_SOON = [-33]
TOO_LATE = [-75]


def written(calls):
    """One list of whole numbers. A call is a tuple: its name, its whole numbers, its row as a list."""
    numbers = []
    for name, *told in calls:
        numbers.append(NAMES.index(name))
        for value in told:
            if isinstance(value, list):
                numbers.append(len(value))
                numbers.extend(value)
            else:
                numbers.append(value)
    return numbers


def parted(numbers):
    parts = []
    place = 0
    while place < len(numbers):
        behind = place + 1 + numbers[place]
        if numbers[place] < 1 or behind > len(numbers):
            raise AssertionError(f"a wrong count at place {place} of {numbers}")
        parts.append(numbers[place + 1:behind])
        place = behind
    return parts


def run(*calls):
    """The answers, one list for each call."""
    parts = parted(answers(written(calls)))
    if len(parts) != len(calls):
        raise AssertionError(f"{len(parts)} answers to {len(calls)} calls")
    return parts


def last(*calls):
    """The answer of the last call."""
    return run(*calls)[-1]


def gives(call, answer):
    """How many numbers the answer to this call should have, by the call and the answer's first number."""
    name, first = call[0], answer[0]
    if first < 0:
        return 1
    if name == "stretches":
        return 1 + 2 * first
    if name == "soonest":
        return 1 + len(call[-1]) // 2
    if name in ("all", "works"):
        return 1 + first
    return {"minutes": 2, "next": 2, "longest": 2, "highest": 2, "lowest": 2, "look": 3, "state": 6}.get(name, 1)


# It adds as much as the minute is away from its lowest one, so heights are easy to tell.
def slope(low):
    return ("wave", 2000, 1000, low)


# Its water is as high as the minute is away from 0, 2000, 4000 and so on.
SLOPE = [("begin", 0), slope(0)]

# Dry from 0 to 99, from 1901 to 2099, from 3901 to 4099.
LOW = [*SLOPE, ("bed", 100)]

# Dry from 0 to 899, from 1101 to 2899, from 3101 to 4899.
HIGH = [*SLOPE, ("bed", 900)]

ALWAYS = [*SLOPE, ("bed", 1001)]
NEVER = [*SLOPE, ("bed", 0)]

# Its water is 0, 2, 4, 6, 8, 10, 8, 6, 4, 2 and again.
SHORT = [("begin", 0), ("wave", 10, 10, 0)]

# Dry from 0 to 2, from 8 to 12, from 18 to 22.
OFTEN = [*SHORT, ("bed", 5)]


def up_to_minute(minute):
    """Calls that let so many minutes go by."""
    calls = [("minutes", 1000)] * (minute // 1000)
    if minute % 1000:
        calls.append(("minutes", minute % 1000))
    return calls


LOOKS = NAMES[NAMES.index("height"):]


def some_wave(chance):
    each = chance.choice((2, 3, 7, 10, 12, 25, 61, 120, 745, 1999, 2000, chance.randint(2, 2000)))
    return ("wave", each, chance.choice((1, 9, 50, 300, 1000, chance.randint(1, 1000))), chance.randrange(each))


def some_waves(chance, least, most):
    return [some_wave(chance) for count in range(chance.randint(least, most))]


def some_beds(chance, waves, base, how_many):
    """Beds between the lowest water and the highest, both with them."""
    highest = base + sum(wave[2] for wave in waves) + 1
    return [("bed", chance.randint(base, highest)) for count in range(how_many)]


def some_minute(chance):
    anywhere = chance.randrange(100001)
    return chance.choice((0, 1, 99999, 100000, chance.randrange(200), chance.randrange(5000), anywhere))


def some_round(chance, beds):
    """Pairs of one to four of so many beds and their minutes."""
    pairs = []
    for bed in chance.sample(range(beds), chance.randint(1, min(beds, 4))):
        pairs += [bed, chance.choice((1, 2, 5, 59, 60, chance.randint(1, 60)))]
    return pairs


def some_look(chance):
    """One that only looks, with a bed that is perhaps not there."""
    name = chance.choice(LOOKS)
    minute, how_many = some_minute(chance), chance.choice((1, 2, 5, 30, 299, 300, chance.randint(1, 300)))
    if name in ("works", "state"):
        return (name,)
    if name in ("height", "all"):
        return (name, minute)
    if name in ("highest", "lowest", "least"):
        return (name, minute, how_many)
    if name == "together":
        return (name, minute, how_many, chance.sample(range(5), chance.randrange(5)))
    if name in ("through", "soonest"):
        return (name, minute, some_round(chance, 4))
    bed = chance.randrange(4)
    if name == "look":
        return (name, bed)
    if name in ("fits", "longest", "many", "stretches"):
        return (name, bed, minute, how_many)
    return (name, bed, minute)


def some_wrong(chance):
    """One that is refused, whatever went before."""
    much = chance.choice((100001, GREATEST))
    return chance.choice((
        ("begin", much), ("wave", 1, 5, 0), ("wave", 10, 5, 10), ("wave", 10, 0, 0), ("bed", much),
        ("raise", 6, 5), ("raise", 0, much), ("minutes", 0), ("minutes", 1001), ("work", 6, 1), ("work", 0, 0),
        ("height", much), ("dry", 0, much), ("next", 0, much), ("wet", 0, much), ("lasts", 0, much),
        ("fits", 0, 5, 301), ("fits", 0, 5, 0), ("longest", 0, 5, 1001), ("longest", 0, much, 5),
        ("many", 0, 5, 0), ("stretches", 0, 5, 1001), ("stretches", 6, 5, 1), ("together", 5, 5, [0, 1, 0]),
        ("together", 5, 5, [6]), ("highest", much, 5), ("lowest", 5, 0), ("least", 5, 301), ("through", 5, []),
        ("through", 5, [0, 61]), ("through", 5, [6, 5]), ("soonest", 5, [0, 5, 1]), ("soonest", much, [0, 5]),
        ("soonest", 5, [0, 5, 6, 5]), ("all", much), ("look", 6),
    ))


def some_change(chance, highest):
    return chance.choice((
        some_wave(chance), ("bed", chance.randint(0, highest)),
        ("raise", chance.randrange(4), chance.randint(0, highest)),
        ("minutes", chance.randint(1, 1000)), ("work", chance.randrange(4), chance.choice((1, 2, 5, 40))),
    ))


EDGES = (0, 1, 2, 3, 5, 6, 10, 60, 300, 301, 999, 1000, 1001, 1500, 1999, 2000, 2001, 10000, 10001, 20000, 20001,
         65535, 65536, 99999, 100000, 100001, 2147483647, 2147483648, 4294967294, GREATEST)


def some_edge(chance):
    """Any call, with values at the edges of all that may be handed in."""
    number = chance.randrange(len(NAMES))
    told = [chance.choice((chance.randrange(6), chance.choice(EDGES))) for count in range(HAS[number])]
    if NAMES[number] in WITH_A_ROW:
        row = chance.choice(((0, 1, 2, 3), (0, 1, 2, 59, 60), (0, 60, 61, 5, 6, 65535)))
        told.append([chance.choice(row) for count in range(chance.randrange(10))])
    return (NAMES[number], *told)


def some_line(chance):
    base = chance.choice((0, 1, 40, 10000))
    waves = some_waves(chance, 0, 4)
    highest = base + sum(wave[2] for wave in waves) + 1
    calls = [("begin", base), *waves, *some_beds(chance, waves, base, chance.randint(1, 4))]
    for count in range(25):
        kind = chance.randrange(11)
        if kind < 6:
            calls.append(some_look(chance))
        elif kind < 9:
            calls.append(some_change(chance, highest))
        elif kind < 10:
            calls.append(some_wrong(chance))
        else:
            calls.append(some_edge(chance))
    return calls
