"""The calls that change something: the start, and points 2 and 3 of the document.

Each answers a list: the number, then what the document calls out; a refusal is its number alone.
"""

from hourstheyhave.limits import ALREADY_SO, CLOTHINGS, LAST_MINUTE, NOBODY, NOT_ALLOWED, NO_ROOM, PASSING_MOST
from hourstheyhave.limits import PERSONS_MOST, TAKES_MOST, TOLD_MOST, TOO_LATE, WAITS, WARMEST
from hourstheyhave.order import the_plan
from hourstheyhave.refusing import refusal_of_clothes, refusal_of_raft, refusal_unless_waiting
from hourstheyhave.sea import Person, Sea, pass_minutes, refit, take_up, turn_water


def hh_start(log, water, table):
    if water > WARMEST or any([told < 1 or told > TOLD_MOST for told in table]):
        return [NOT_ALLOWED]
    log.begin(Sea(water, table, 0, []))
    return [0]


def hh_person(log, clothes, raft, takes):
    if clothes >= CLOTHINGS or raft > 1 or takes < 1 or takes > TAKES_MOST:
        return [NOT_ALLOWED]
    number = len(log.now.persons)
    if number >= PERSONS_MOST:
        return [NO_ROOM]
    sea = log.now.duplicate()
    left = sea.told(clothes, raft)
    sea.persons.append(Person(clothes, raft, takes, left, WAITS))
    log.change_to(sea)
    return [number, left]


def hh_water(log, w):
    before = log.now.water
    if w > WARMEST:
        return [NOT_ALLOWED]
    if w == before:
        return [ALREADY_SO]
    sea = log.now.duplicate()
    turn_water(sea, w)
    log.change_to(sea)
    return [before]


def hh_raft(log, p, inside):
    refusal = refusal_of_raft(log.now, p, inside)
    if refusal is not None:
        return [refusal]
    return change_person(log, p, log.now.persons[p].clothes, inside)


def hh_clothe(log, p, c):
    refusal = refusal_of_clothes(log.now, p, c)
    if refusal is not None:
        return [refusal]
    return change_person(log, p, c, log.now.persons[p].raft)


def change_person(log, p, clothes, raft):
    sea = log.now.duplicate()
    refit(sea, sea.persons[p], clothes, raft)
    log.change_to(sea)
    return [sea.persons[p].left]


def hh_minutes(log, n):
    if n < 1 or n > PASSING_MOST:
        return [NOT_ALLOWED]
    if log.now.minute + n > LAST_MINUTE:
        return [TOO_LATE]
    sea = log.now.duplicate()
    lost = pass_minutes(sea, n)
    log.change_to(sea)
    return [sea.minute, lost]


def hh_take(log, p):
    refusal = refusal_unless_waiting(log.now, p)
    if refusal is not None:
        return [refusal]
    if log.now.minute + log.now.persons[p].takes > LAST_MINUTE:
        return [TOO_LATE]
    sea = log.now.duplicate()
    others_lost = take_up(sea, p)
    log.change_to(sea)
    return [sea.persons[p].fate, sea.minute, others_lost]


def hh_all(log):
    plan = the_plan(log.now, 0)
    if len(plan) == 0:
        return [NOBODY]
    takes = sum([log.now.persons[p].takes for p in plan])
    if log.now.minute + takes > LAST_MINUTE:
        return [TOO_LATE]
    sea = log.now.duplicate()
    for p in plan:
        take_up(sea, p)
    log.change_to(sea)
    return [len(plan), sea.minute, len(sea.numbers_of(WAITS))]
