"""Searches for dry minutes, without ranges and refusals."""

from dryhours.limits import SPAN


def dry_minutes_from(shore, bed, minute, most):
    """For how many minutes from this one on the bed is dry without a break, counted up to most."""
    lasted = 0
    while lasted < most and shore.is_dry(bed, minute + lasted):
        lasted += 1
    return lasted


def first_minute(shore, bed, minute, dry):
    """The first minute of the span at which the bed is dry, or isn't, as asked; None if there's none."""
    for tried in range(minute, minute + SPAN + 1):
        if shore.is_dry(bed, tried) == dry:
            return tried
    return None


def first_fit(shore, bed, minute, how_many):
    """The first minute of the span from which the bed is dry for so many minutes; None if there's none."""
    tried = minute
    # Only the first of the dry minutes lies within the span: the others may be behind its end.
    while tried <= minute + SPAN:
        lasted = dry_minutes_from(shore, bed, tried, how_many)
        if lasted == how_many:
            return tried
        # What begins before the minute that broke it off is broken off there too.
        tried += lasted + 1
    return None


def dry_stretches(shore, bed, minute, how_many):
    """The stretches within so many minutes from this one on: pairs of the first minute and how long it is."""
    found = []
    end = minute + how_many
    tried = minute
    while tried < end:
        lasted = dry_minutes_from(shore, bed, tried, end - tried)
        if lasted > 0:
            found.append((tried, lasted))
        tried += lasted + 1
    return found
