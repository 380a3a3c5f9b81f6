"""The calls that only look. Each gives back the list of numbers that it answers.

Whether the shore is begun and the bed is there is asked before these are called.
"""

from dryhours.dryness import dry_minutes_from, dry_stretches, first_fit, first_minute
from dryhours.limits import NOT_SO_SOON, OUT_OF_RANGE, SPAN
from dryhours.limits import is_how_many, is_how_many_to_fit, is_minute


def tell_height(shore, minute):
    if not is_minute(minute):
        return [OUT_OF_RANGE]
    return [shore.water_at(minute)]


def tell_dry(shore, bed, minute):
    if not is_minute(minute):
        return [OUT_OF_RANGE]
    if shore.is_dry(bed, minute):
        return [1]
    return [0]


def tell_next(shore, bed, minute):
    if not is_minute(minute):
        return [OUT_OF_RANGE]
    first = first_minute(shore, bed, minute, True)
    if first is None:
        return [NOT_SO_SOON]
    return [first, dry_minutes_from(shore, bed, first, SPAN)]


def tell_wet(shore, bed, minute):
    if not is_minute(minute):
        return [OUT_OF_RANGE]
    first = first_minute(shore, bed, minute, False)
    if first is None:
        return [NOT_SO_SOON]
    return [first]


def tell_lasts(shore, bed, minute):
    if not is_minute(minute):
        return [OUT_OF_RANGE]
    return [dry_minutes_from(shore, bed, minute, SPAN)]


def tell_fits(shore, bed, minute, how_many):
    if not is_minute(minute) or not is_how_many_to_fit(how_many):
        return [OUT_OF_RANGE]
    first = first_fit(shore, bed, minute, how_many)
    if first is None:
        return [NOT_SO_SOON]
    return [first]


def tell_longest(shore, bed, minute, how_many):
    if not is_minute(minute) or not is_how_many(how_many):
        return [OUT_OF_RANGE]
    longest = 0
    begins = minute
    for first, lasted in dry_stretches(shore, bed, minute, how_many):
        # Of stretches as long the first is told, so only a longer one takes its place.
        if lasted > longest:
            longest = lasted
            begins = first
    if longest == 0:
        return [NOT_SO_SOON]
    return [longest, begins]
