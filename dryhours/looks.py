"""The calls that look at a minute, from a minute on, or at what is now.

Each gives back the list of numbers that it answers. Whether the shore is begun and the bed is there is asked before
these are called.
"""

from dryhours.dryness import dry_minutes_from, first_fit, first_minute
from dryhours.limits import NOT_SO_SOON, OUT_OF_RANGE, SPAN
from dryhours.limits import is_few, is_minute


def tell_height(shore, minute):
    if not is_minute(minute):
        return [OUT_OF_RANGE]
    return [shore.water_at(minute)]


def tell_dry(shore, bed, minute):
    if not is_minute(minute):
        return [OUT_OF_RANGE]
    return [one_if_dry(shore, bed, minute)]


def tell_next(shore, bed, minute):
    if not is_minute(minute):
        return [OUT_OF_RANGE]
    first = first_minute(shore, bed, minute, True)
    if first is None:
        return [NOT_SO_SOON]
    return [first, dry_minutes_from(shore, bed, first, SPAN)]


def tell_wet(shore, bed, minute):
    if not is_minute(minute):
        return [OUT_OF_RANGE]
    first = first_minute(shore, bed, minute, False)
    if first is None:
        return [NOT_SO_SOON]
    return [first]


def tell_lasts(shore, bed, minute):
    if not is_minute(minute):
        return [OUT_OF_RANGE]
    return [dry_minutes_from(shore, bed, minute, SPAN)]


def tell_fits(shore, bed, minute, how_many):
    if not is_minute(minute) or not is_few(how_many):
        return [OUT_OF_RANGE]
    first = first_fit(shore, bed, minute, how_many)
    if first is None:
        return [NOT_SO_SOON]
    return [first]


def tell_all(shore, minute):
    if not is_minute(minute):
        return [OUT_OF_RANGE]
    dry = [bed for bed in range(len(shore.beds)) if shore.is_dry(bed, minute)]
    return [len(dry)] + dry


def tell_works(shore):
    return [len(shore.beds)] + [bed.worked for bed in shore.beds]


def tell_look(shore, bed):
    looked_at = shore.beds[bed]
    return [looked_at.height, looked_at.worked, one_if_dry(shore, bed, shore.minute)]


def tell_state(shore):
    return [0, shore.minute, shore.base, len(shore.waves), len(shore.beds), shore.water_at(shore.minute)]


def one_if_dry(shore, bed, minute):
    return 1 if shore.is_dry(bed, minute) else 0
