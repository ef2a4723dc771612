"""The calls of points 4 and 5 of the document, which tell who can be taken up and change nothing.

Each answers a list: the number, then what the document calls out; a refusal is its number alone.
"""

from hourstheyhave.limits import BEGIN_MOST, NOBODY, NOT_ALLOWED, NOT_WAITING, PERSONS_MOST
from hourstheyhave.order import group_of, is_among_the_most, longest_wait, size_without, the_most, the_plan
from hourstheyhave.refusing import refusal_of_clothes, refusal_unless_waiting
from hourstheyhave.sea import refit


def hh_left(sea, p):
    refusal = refusal_unless_waiting(sea, p)
    if refusal is not None:
        return [refusal]
    person = sea.persons[p]
    return [person.left, sea.minute + person.left, max(0, person.left - person.takes)]


def hh_most(sea, t):
    if t > BEGIN_MOST:
        return [NOT_ALLOWED]
    most = the_most(sea, t)
    return [most.size, most.bits]


def hh_plan(sea, t):
    if t > BEGIN_MOST:
        return [NOT_ALLOWED]
    plan = the_plan(sea, t)
    return [len(plan)] + [p + 1 for p in plan] + [0] * (PERSONS_MOST - len(plan))


def hh_can(sea, who, t):
    if who >> len(sea.persons) != 0 or t > BEGIN_MOST:
        return [NOT_ALLOWED]
    group = group_of(sea, who)
    # Only those who wait come into a group, so one who doesn't is missing from its bits.
    if group.bits != who:
        return [NOT_WAITING]
    return [1 if group.spare >= t else 0]


def hh_spare(sea):
    if the_most(sea, 0).size == 0:
        return [NOBODY]
    return [longest_wait(sea)]


def hh_first(sea):
    plan = the_plan(sea, 0)
    if len(plan) == 0:
        return [NOBODY]
    return [plan[0], sea.minute + sea.persons[plan[0]].takes]


def hh_without(sea, p):
    refusal = refusal_unless_waiting(sea, p)
    if refusal is not None:
        return [refusal]
    return [size_without(sea, p)]


def hh_among(sea, p):
    refusal = refusal_unless_waiting(sea, p)
    if refusal is not None:
        return [refusal]
    return [1 if is_among_the_most(sea, p) else 0]


def hh_saves(sea, p, c):
    refusal = refusal_of_clothes(sea, p, c)
    if refusal is not None:
        return [refusal]
    # The sea that's asked may stand in the log, where none is altered.
    supposed = sea.duplicate()
    person = supposed.persons[p]
    refit(supposed, person, c, person.raft)
    return [the_most(supposed, 0).size, person.left]
