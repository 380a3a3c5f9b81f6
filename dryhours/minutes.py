"""The calls that look at so many minutes from one on. Each gives back the list of numbers that it answers.

Whether the shore is begun and the bed is there is asked before these are called, but for together.
"""

from dryhours.dryness import dry_stretches, minutes_all_dry
from dryhours.limits import MOST_BEDS, NO_SUCH_BED, NOT_SO_SOON, OUT_OF_RANGE
from dryhours.limits import are_different, is_few, is_how_many, is_minute


def are_minutes(minute, how_many):
    return is_minute(minute) and is_how_many(how_many)


def tell_longest(shore, bed, minute, how_many):
    if not are_minutes(minute, how_many):
        return [OUT_OF_RANGE]
    longest = 0
    begins = minute
    for first, lasted in dry_stretches(shore, bed, minute, how_many):
        # Of stretches as long the first is told, so only a longer one takes its place.
        if lasted > longest:
            longest = lasted
            begins = first
    if longest == 0:
        return [NOT_SO_SOON]
    return [longest, begins]


def tell_many(shore, bed, minute, how_many):
    if not are_minutes(minute, how_many):
        return [OUT_OF_RANGE]
    return [minutes_all_dry(shore, [bed], minute, how_many)]


def tell_stretches(shore, bed, minute, how_many):
    if not are_minutes(minute, how_many):
        return [OUT_OF_RANGE]
    stretches = dry_stretches(shore, bed, minute, how_many)
    told = [len(stretches)]
    for first, lasted in stretches:
        told.append(first)
        told.append(lasted)
    return told


def tell_together(shore, minute, how_many, beds):
    if not are_minutes(minute, how_many):
        return [OUT_OF_RANGE]
    if len(beds) > MOST_BEDS or not are_different(beds):
        return [OUT_OF_RANGE]
    if not shore.has_beds(beds):
        return [NO_SUCH_BED]
    return [minutes_all_dry(shore, beds, minute, how_many)]


def tell_highest(shore, minute, how_many):
    if not are_minutes(minute, how_many):
        return [OUT_OF_RANGE]
    waters = shore.waters_from(minute, how_many)
    highest = max(waters)
    return [highest, minute + waters.index(highest)]


def tell_lowest(shore, minute, how_many):
    if not are_minutes(minute, how_many):
        return [OUT_OF_RANGE]
    waters = shore.waters_from(minute, how_many)
    lowest = min(waters)
    return [lowest, minute + waters.index(lowest)]


def tell_least(shore, minute, how_many):
    if not is_minute(minute) or not is_few(how_many):
        return [OUT_OF_RANGE]
    # A bed that lies just as high as the water isn't dry.
    return [max(shore.waters_from(minute, how_many)) + 1]
