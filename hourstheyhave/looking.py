"""The calls of point 6 of the document, which tell what there is and change nothing.

Each answers a list: the number, then what the document calls out; a refusal is its number alone.
"""

from hourstheyhave.limits import LOST, NOBODY, NOT_THERE, RAFT_PLACE, TAKEN_UP, WAITS
from hourstheyhave.order import numbers_by_left


def hh_next(sea):
    numbers = numbers_by_left(sea)
    if len(numbers) == 0:
        return [NOBODY]
    return [numbers[0], sea.persons[numbers[0]].left]


def hh_look(sea, p):
    if p >= len(sea.persons):
        return [NOT_THERE]
    person = sea.persons[p]
    return [person.fate, person.clothes, person.raft, person.left, person.takes]


def hh_who(sea):
    waiting = sea.numbers_of(WAITS)
    return [len(waiting), bits_of(waiting), bits_of(sea.numbers_of(TAKEN_UP)), bits_of(sea.numbers_of(LOST))]


def bits_of(numbers):
    return sum([1 << number for number in numbers])


def hh_row(sea, place):
    if place > RAFT_PLACE:
        return [NOT_THERE]
    return [0] + sea.told_row(place)


def hh_sums(sea):
    return [len(sea.persons)] + [len(sea.numbers_of(fate)) for fate in (WAITS, TAKEN_UP, LOST)]
