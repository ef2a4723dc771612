"""A line of calls on one new object, and what they answer."""

from hourstheyhave.asking import hh_among, hh_can, hh_first, hh_left, hh_most, hh_plan, hh_saves, hh_spare, hh_without
from hourstheyhave.changing import hh_all, hh_clothe, hh_minutes, hh_person, hh_raft, hh_start, hh_take, hh_water
from hourstheyhave.log import Log
from hourstheyhave.looking import hh_look, hh_next, hh_row, hh_sums, hh_who
from hourstheyhave.undoing import hh_again, hh_back, hh_state

START = 0
LAST_CHANGE = 7
LAST_ASKING = 16
LAST_LOOKING = 21
# How many numbers stand behind each call's own number; the start's table comes on top of its two.
WIDTHS = (2, 3, 1, 2, 2, 1, 1, 0, 1, 1, 1, 2, 0, 0, 1, 1, 2, 0, 1, 0, 1, 0, 0, 0, 0)


def answers(calls):
    log = Log()
    told = []
    at = 0
    while at < len(calls):
        end = end_of_call(calls, at)
        answer = answer_of(log, calls[at], calls[at + 1:end])
        told.append(len(answer))
        told.extend(answer)
        at = end
    return told


def end_of_call(calls, at):
    """Where the call that begins there ends."""
    number = calls[at]
    end = at + 1 + WIDTHS[number]
    if number == START:
        return end + calls[at + 2]
    return end


def answer_of(log, number, given):
    if number == START:
        return hh_start(log, given[0], given[2:])
    if number <= LAST_CHANGE:
        return answer_of_change(log, number, given)
    if number <= LAST_ASKING:
        return answer_of_asking(log.now, number, given)
    if number <= LAST_LOOKING:
        return answer_of_looking(log.now, number, given)
    return answer_of_undoing(log, number)


def answer_of_change(log, number, given):
    if number == 1:
        return hh_person(log, given[0], given[1], given[2])
    if number == 2:
        return hh_water(log, given[0])
    if number == 3:
        return hh_raft(log, given[0], given[1])
    if number == 4:
        return hh_clothe(log, given[0], given[1])
    if number == 5:
        return hh_minutes(log, given[0])
    if number == 6:
        return hh_take(log, given[0])
    return hh_all(log)


def answer_of_asking(sea, number, given):
    if number == 8:
        return hh_left(sea, given[0])
    if number == 9:
        return hh_most(sea, given[0])
    if number == 10:
        return hh_plan(sea, given[0])
    if number == 11:
        return hh_can(sea, given[0], given[1])
    if number == 12:
        return hh_spare(sea)
    if number == 13:
        return hh_first(sea)
    if number == 14:
        return hh_without(sea, given[0])
    if number == 15:
        return hh_among(sea, given[0])
    return hh_saves(sea, given[0], given[1])


def answer_of_looking(sea, number, given):
    if number == 17:
        return hh_next(sea)
    if number == 18:
        return hh_look(sea, given[0])
    if number == 19:
        return hh_who(sea)
    if number == 20:
        return hh_row(sea, given[0])
    return hh_sums(sea)


def answer_of_undoing(log, number):
    if number == 22:
        return hh_back(log)
    if number == 23:
        return hh_again(log)
    return hh_state(log)
