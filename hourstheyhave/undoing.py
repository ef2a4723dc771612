"""The calls of point 7 of the document: changes taken back and done again, and how things stand.

Each answers a list: the number, then what the document calls out; a refusal is its number alone.
"""

from hourstheyhave.limits import NOT_THERE


def hh_back(log):
    if len(log.earlier) == 0:
        return [NOT_THERE]
    log.take_back()
    return [len(log.earlier)]


def hh_again(log):
    if len(log.later) == 0:
        return [NOT_THERE]
    log.do_again()
    return [len(log.later)]


def hh_state(log):
    return [log.now.minute, log.now.water, len(log.earlier), len(log.later)]
