"""The calls that change nothing: point 4 of the document, and hh_spare of point 5.

Each answers a list: the number, then what the document calls out; a refusal is its number alone.
"""

from hourstheyhave.limits import BEGIN_MOST, NOBODY, NOT_ALLOWED, NOT_THERE, NOT_WAITING, PERSONS_MOST
from hourstheyhave.order import group_of, longest_wait, the_most, the_plan


def hh_left(sea, p):
    if p >= len(sea.persons):
        return [NOT_THERE]
    person = sea.persons[p]
    if not person.waits():
        return [NOT_WAITING]
    return [person.left, sea.minute + person.left, max(0, person.left - person.takes)]


def hh_most(sea, t):
    if t > BEGIN_MOST:
        return [NOT_ALLOWED]
    most = the_most(sea, t)
    return [most.size, most.bits]


def hh_plan(sea, t):
    if t > BEGIN_MOST:
        return [NOT_ALLOWED]
    plan = the_plan(sea, t)
    return [len(plan)] + [p + 1 for p in plan] + [0] * (PERSONS_MOST - len(plan))


def hh_can(sea, who, t):
    if who >> len(sea.persons) != 0 or t > BEGIN_MOST:
        return [NOT_ALLOWED]
    group = group_of(sea, who)
    # Only those who wait come into a group, so one who doesn't is missing from its bits.
    if group.bits != who:
        return [NOT_WAITING]
    return [1 if group.spare >= t else 0]


def hh_spare(sea):
    if the_most(sea, 0).size == 0:
        return [NOBODY]
    return [longest_wait(sea)]
