"""The refusals of the calls that speak of one person.

Each function answers the refusal that's told first of those that are due, or None.
"""

from hourstheyhave.limits import ALREADY_SO, CLOTHINGS, NOT_ALLOWED, NOT_THERE, NOT_WAITING


def refusal_unless_waiting(sea, p):
    if p >= len(sea.persons):
        return NOT_THERE
    if not sea.persons[p].waits():
        return NOT_WAITING
    return None


def refusal_of_raft(sea, p, inside):
    if p >= len(sea.persons):
        return NOT_THERE
    if inside > 1:
        return NOT_ALLOWED
    return refusal_of_fit(sea.persons[p], sea.persons[p].clothes, inside)


def refusal_of_clothes(sea, p, c):
    if p >= len(sea.persons):
        return NOT_THERE
    if c >= CLOTHINGS:
        return NOT_ALLOWED
    return refusal_of_fit(sea.persons[p], c, sea.persons[p].raft)


def refusal_of_fit(person, clothes, raft):
    if not person.waits():
        return NOT_WAITING
    if person.clothes == clothes and person.raft == raft:
        return ALREADY_SO
    return None
