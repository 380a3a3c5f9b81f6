"""The calls about a round. Each gives back the list of numbers that it answers.

Whether the shore is begun is asked before these are called.
"""

from dryhours.dryness import first_fits
from dryhours.limits import MOST_BEDS_OF_A_ROUND, MOST_MINUTES_AT_A_BED, SPAN
from dryhours.limits import NO_SUCH_BED, NOT_SO_SOON, OUT_OF_RANGE
from dryhours.limits import are_different, is_at_a_bed, is_minute


class Visit:
    def __init__(self, bed, how_many, begins):
        self.bed = bed
        self.how_many = how_many
        # By how many minutes after the round's beginning the crew comes: after how many the work there begins.
        self.begins = begins


def tell_through(shore, minute, pairs):
    refused = round_refused(shore, minute, pairs)
    if refused is not None:
        return [refused]
    lasts = how_long(visits_of(shore, minute, pairs))
    if lasts is None:
        return [NOT_SO_SOON]
    return [minute + lasts]


def tell_soonest(shore, minute, pairs):
    refused = round_refused(shore, minute, pairs)
    if refused is not None:
        return [refused]
    shortest = None
    beds = []
    for order in all_orders(visits_of(shore, minute, pairs)):
        lasts = how_long(order)
        # Of orders as soon the first is told, so only a sooner one takes its place.
        if lasts is not None and (shortest is None or lasts < shortest):
            shortest = lasts
            beds = [visit.bed for visit in order]
    if shortest is None:
        return [NOT_SO_SOON]
    return [minute + shortest] + beds


def round_refused(shore, minute, pairs):
    """What is refused ahead of any search: the refusal's number; None if nothing is."""
    if not is_minute(minute) or not is_a_round(pairs):
        return OUT_OF_RANGE
    if not shore.has_beds(beds_of(pairs)):
        return NO_SUCH_BED
    return None


def is_a_round(pairs):
    if len(pairs) % 2 != 0 or not 2 <= len(pairs) <= 2 * MOST_BEDS_OF_A_ROUND:
        return False
    return are_different(beds_of(pairs)) and all([is_at_a_bed(how_many) for how_many in minutes_of(pairs)])


def beds_of(pairs):
    return pairs[0::2]


def minutes_of(pairs):
    return pairs[1::2]


def visits_of(shore, minute, pairs):
    """The beds in the order told, each with where the work there begins."""
    # At each bed the crew waits a span at most, so it comes to no minute behind these.
    longest = len(beds_of(pairs)) * (SPAN + MOST_MINUTES_AT_A_BED)
    waters = shore.waters_from(minute, longest)
    visits = []
    for bed, how_many in zip(beds_of(pairs), minutes_of(pairs)):
        visits.append(Visit(bed, how_many, first_fits(waters, shore.beds[bed].height, how_many)))
    return visits


def how_long(order):
    """After how many minutes the crew is through; None if a bed isn't dry so long within a span."""
    lasted = 0
    for visit in order:
        begins = visit.begins[lasted]
        if begins is None or begins > lasted + SPAN:
            return None
        lasted = begins + visit.how_many
    return lasted


def all_orders(visits):
    """Of any two orders, the one with the visit told sooner where they first differ stands ahead."""
    orders = [[]]
    for visit in visits:
        orders = with_one_more(orders, visits)
    return orders


def with_one_more(orders, visits):
    longer = []
    for order in orders:
        beds = [visit.bed for visit in order]
        for visit in visits:
            if visit.bed not in beds:
                longer.append(order + [visit])
    return longer
