"""The list of calls, taken apart call by call, and the list of their answers."""

from dryhours.changes import add_bed, add_wave, begin, pass_minutes, raise_bed, work_at_bed
from dryhours.limits import NO_SUCH_BED, NOT_BEGUN
from dryhours.looks import tell_dry, tell_fits, tell_height, tell_lasts, tell_longest, tell_next, tell_wet
from dryhours.shore import Shore

BEGIN = 0
WAVE = 1
BED = 2
RAISE = 3
MINUTES = 4
WORK = 5
HEIGHT = 6
DRY = 7
NEXT = 8
WET = 9
LASTS = 10
FITS = 11
LONGEST = 12
TOGETHER = 15
THROUGH = 19
SOONEST = 20

# By a call's number: how many whole numbers stand behind it, ahead of its row if it has one.
WHOLE_NUMBERS = (1, 3, 1, 2, 1, 2, 1, 2, 2, 2, 2, 3, 3, 3, 3, 2, 2, 2, 2, 1, 1, 1, 0, 1, 0)


def answers(calls):
    shore = Shore()
    answered = []
    place = 0
    while place < len(calls):
        number = calls[place]
        row_place = place + 1 + WHOLE_NUMBERS[number]
        numbers = answer(shore, number, calls[place + 1:row_place])
        answered.append(len(numbers))
        answered.extend(numbers)
        place = row_place
        if has_a_row(number):
            place += 1 + calls[row_place]
    return answered


def has_a_row(number):
    return number in (TOGETHER, THROUGH, SOONEST)


def begins_with_a_bed(number):
    return number in (RAISE, WORK, DRY, NEXT, WET, LASTS, FITS, LONGEST)


def answer(shore, number, told):
    if number == BEGIN:
        return begin(shore, told[0])
    if not shore.begun:
        return [NOT_BEGUN]
    # That there's no such bed is told ahead of whatever else the call would refuse.
    if begins_with_a_bed(number) and not shore.has_bed(told[0]):
        return [NO_SUCH_BED]
    if number <= WORK:
        return answer_change(shore, number, told)
    if number <= LONGEST:
        return answer_look(shore, number, told)
    raise NotImplementedError(f"call {number} is not built yet")


def answer_change(shore, number, told):
    if number == WAVE:
        return add_wave(shore, told[0], told[1], told[2])
    if number == BED:
        return add_bed(shore, told[0])
    if number == RAISE:
        return raise_bed(shore, told[0], told[1])
    if number == MINUTES:
        return pass_minutes(shore, told[0])
    return work_at_bed(shore, told[0], told[1])


def answer_look(shore, number, told):
    if number == HEIGHT:
        return tell_height(shore, told[0])
    if number == DRY:
        return tell_dry(shore, told[0], told[1])
    if number == NEXT:
        return tell_next(shore, told[0], told[1])
    if number == WET:
        return tell_wet(shore, told[0], told[1])
    if number == LASTS:
        return tell_lasts(shore, told[0], told[1])
    if number == FITS:
        return tell_fits(shore, told[0], told[1], told[2])
    return tell_longest(shore, told[0], told[1], told[2])
