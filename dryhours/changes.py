"""The calls that change the shore. Each gives back the list of numbers that it answers.

Whether the shore is begun and the bed is there is asked before these are called.
"""

from dryhours.dryness import dry_minutes_from
from dryhours.limits import HIGHEST_BASE, LAST_MINUTE, MOST_BEDS, MOST_WAVES
from dryhours.limits import NOT_DRY, OUT_OF_RANGE, TOO_LATE, TOO_MANY
from dryhours.limits import is_bed_height, is_how_many, is_wave
from dryhours.shore import Bed, Wave


def begin(shore, base):
    if base > HIGHEST_BASE:
        return [OUT_OF_RANGE]
    shore.begin_afresh(base)
    return [0]


def add_wave(shore, each, high, low):
    if not is_wave(each, high, low):
        return [OUT_OF_RANGE]
    if len(shore.waves) >= MOST_WAVES:
        return [TOO_MANY]
    shore.waves.append(Wave(each, high, low))
    return [len(shore.waves) - 1]


def add_bed(shore, height):
    if not is_bed_height(height):
        return [OUT_OF_RANGE]
    if len(shore.beds) >= MOST_BEDS:
        return [TOO_MANY]
    shore.beds.append(Bed(height))
    return [len(shore.beds) - 1]


def raise_bed(shore, bed, height):
    if not is_bed_height(height):
        return [OUT_OF_RANGE]
    raised = shore.beds[bed]
    lay = raised.height
    raised.height = height
    return [lay]


def pass_minutes(shore, how_many):
    if not is_how_many(how_many):
        return [OUT_OF_RANGE]
    if shore.minute + how_many > LAST_MINUTE:
        return [TOO_LATE]
    shore.minute += how_many
    return [shore.minute, shore.water_at(shore.minute)]


def work_at_bed(shore, bed, how_many):
    if not is_how_many(how_many):
        return [OUT_OF_RANGE]
    if shore.minute + how_many > LAST_MINUTE:
        return [TOO_LATE]
    if dry_minutes_from(shore, bed, shore.minute, how_many) < how_many:
        return [NOT_DRY]
    shore.minute += how_many
    worked_at = shore.beds[bed]
    worked_at.worked += how_many
    return [shore.minute]
