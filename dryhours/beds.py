"""The list of calls, taken apart call by call, and the list of their answers."""

from dryhours.changes import add_bed, add_wave, begin, pass_minutes, raise_bed, work_at_bed
from dryhours.limits import NO_SUCH_BED, NOT_BEGUN
from dryhours.looks import tell_all, tell_dry, tell_fits, tell_height, tell_lasts, tell_look, tell_next, tell_state
from dryhours.looks import tell_wet, tell_works
from dryhours.minutes import tell_highest, tell_least, tell_longest, tell_lowest, tell_many, tell_stretches
from dryhours.minutes import tell_together
from dryhours.rounds import tell_soonest, tell_through
from dryhours.shore import Shore

BEGIN = 0
WAVE = 1
BED = 2
RAISE = 3
MINUTES = 4
WORK = 5
HEIGHT = 6
DRY = 7
NEXT = 8
WET = 9
LASTS = 10
FITS = 11
LONGEST = 12
MANY = 13
STRETCHES = 14
TOGETHER = 15
HIGHEST = 16
LOWEST = 17
LEAST = 18
THROUGH = 19
SOONEST = 20
ALL = 21
WORKS = 22
LOOK = 23

# By a call's number: how many whole numbers stand behind it, ahead of its row if it has one.
WHOLE_NUMBERS = (1, 3, 1, 2, 1, 2, 1, 2, 2, 2, 2, 3, 3, 3, 3, 2, 2, 2, 2, 1, 1, 1, 0, 1, 0)


def answers(calls):
    shore = Shore()
    answered = []
    place = 0
    while place < len(calls):
        number = calls[place]
        behind = place + 1 + WHOLE_NUMBERS[number]
        told = calls[place + 1:behind]
        if has_a_row(number):
            row_place = behind + 1
            behind = row_place + calls[behind]
            told.append(calls[row_place:behind])
        numbers = answer(shore, number, told)
        answered.append(len(numbers))
        answered.extend(numbers)
        place = behind
    return answered


def has_a_row(number):
    return number in (TOGETHER, THROUGH, SOONEST)


def begins_with_a_bed(number):
    return number in (RAISE, WORK, DRY, NEXT, WET, LASTS, FITS, LONGEST, MANY, STRETCHES, LOOK)


def answer(shore, number, told):
    if number == BEGIN:
        return begin(shore, told[0])
    if not shore.begun:
        return [NOT_BEGUN]
    # That there's no such bed is told ahead of whatever else the call would refuse.
    if begins_with_a_bed(number) and not shore.has_bed(told[0]):
        return [NO_SUCH_BED]
    if number <= WORK:
        return answer_change(shore, number, told)
    if number <= FITS:
        return answer_from_a_minute(shore, number, told)
    if number <= LEAST:
        return answer_of_minutes(shore, number, told)
    return answer_of_rounds_and_all(shore, number, told)


def answer_change(shore, number, told):
    if number == WAVE:
        return add_wave(shore, told[0], told[1], told[2])
    if number == BED:
        return add_bed(shore, told[0])
    if number == RAISE:
        return raise_bed(shore, told[0], told[1])
    if number == MINUTES:
        return pass_minutes(shore, told[0])
    return work_at_bed(shore, told[0], told[1])


def answer_from_a_minute(shore, number, told):
    if number == HEIGHT:
        return tell_height(shore, told[0])
    if number == DRY:
        return tell_dry(shore, told[0], told[1])
    if number == NEXT:
        return tell_next(shore, told[0], told[1])
    if number == WET:
        return tell_wet(shore, told[0], told[1])
    if number == LASTS:
        return tell_lasts(shore, told[0], told[1])
    return tell_fits(shore, told[0], told[1], told[2])


def answer_of_minutes(shore, number, told):
    if number == LONGEST:
        return tell_longest(shore, told[0], told[1], told[2])
    if number == MANY:
        return tell_many(shore, told[0], told[1], told[2])
    if number == STRETCHES:
        return tell_stretches(shore, told[0], told[1], told[2])
    if number == TOGETHER:
        return tell_together(shore, told[0], told[1], told[2])
    if number == HIGHEST:
        return tell_highest(shore, told[0], told[1])
    if number == LOWEST:
        return tell_lowest(shore, told[0], told[1])
    return tell_least(shore, told[0], told[1])


def answer_of_rounds_and_all(shore, number, told):
    if number == THROUGH:
        return tell_through(shore, told[0], told[1])
    if number == SOONEST:
        return tell_soonest(shore, told[0], told[1])
    if number == ALL:
        return tell_all(shore, told[0])
    if number == WORKS:
        return tell_works(shore)
    if number == LOOK:
        return tell_look(shore, told[0])
    return tell_state(shore)
