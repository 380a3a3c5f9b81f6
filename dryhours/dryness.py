"""Searches for dry minutes, without ranges and refusals."""

from dryhours.limits import SPAN


def dry_minutes_from(shore, bed, minute, most):
    """For how many minutes from this one on the bed is dry without a break, counted up to most."""
    lasted = 0
    while lasted < most and shore.is_dry(bed, minute + lasted):
        lasted += 1
    return lasted


def first_minute(shore, bed, minute, dry):
    """The first minute of the span at which the bed is dry, or isn't, as asked; None if there's none."""
    for tried in range(minute, minute + SPAN + 1):
        if shore.is_dry(bed, tried) == dry:
            return tried
    return None


def first_fit(shore, bed, minute, how_many):
    """The first minute of the span from which the bed is dry for so many minutes; None if there's none."""
    # Only the first of the dry minutes lies within the span: the others may be behind its end.
    waters = shore.waters_from(minute, SPAN + how_many)
    waits = first_fits(waters, shore.beds[bed].height, how_many)[0]
    if waits is None:
        return None
    return minute + waits


def first_fits(waters, height, how_many):
    """For each place: the first from there on from which so many waters are below the height; None if there's none."""
    found = [None] * len(waters)
    first = None
    lasted = 0
    for place in range(len(waters) - 1, -1, -1):
        lasted = lasted + 1 if waters[place] < height else 0
        if lasted >= how_many:
            first = place
        found[place] = first
    return found


def dry_stretches(shore, bed, minute, how_many):
    """The stretches within so many minutes from this one on: pairs of the first minute and how long it is."""
    found = []
    end = minute + how_many
    tried = minute
    while tried < end:
        lasted = dry_minutes_from(shore, bed, tried, end - tried)
        if lasted > 0:
            found.append((tried, lasted))
        tried += lasted + 1
    return found


def minutes_all_dry(shore, beds, minute, how_many):
    """In how many of so many minutes from this one on all of these beds are dry."""
    heights = [shore.beds[bed].height for bed in beds]
    counted = 0
    for water in shore.waters_from(minute, how_many):
        if all([water < height for height in heights]):
            counted += 1
    return counted
