"""The sea at one minute: the water, the table and the persons, and how these change."""

from hourstheyhave.limits import CLOTHINGS, LOST, RAFT_PLACE, TAKEN_UP, WAITS


class Person:
    """One person: what they wear, where they are, and how many minutes they have left."""

    def __init__(self, clothes, raft, takes, left, fate):
        self.clothes = clothes
        self.raft = raft
        self.takes = takes
        self.left = left
        self.fate = fate

    def waits(self):
        return self.fate == WAITS

    def duplicate(self):
        return Person(self.clothes, self.raft, self.takes, self.left, self.fate)


class Sea:
    """All that a change may change, and the table, which stays."""

    def __init__(self, water, table, minute, persons):
        self.water = water
        self.table = table
        self.minute = minute
        self.persons = persons

    def duplicate(self):
        persons = [person.duplicate() for person in self.persons]
        return Sea(self.water, self.table, self.minute, persons)

    def told_row(self, place):
        return self.table[place * CLOTHINGS:(place + 1) * CLOTHINGS]

    def told_at(self, place, clothes):
        return self.table[place * CLOTHINGS + clothes]

    def told(self, clothes, raft):
        """How many minutes the table tells for these clothes, in a raft (1) or in the water (0)."""
        return self.told_at(RAFT_PLACE if raft == 1 else self.water, clothes)

    def numbers_of(self, fate):
        """The numbers of those who fare so."""
        return [number for number, person in enumerate(self.persons) if person.fate == fate]


def rescaled(left, told_now, told_before):
    """What is left when the table tells another number than before."""
    return max(1, left * told_now // told_before)


def refit(sea, person, clothes, raft):
    """Give a person these clothes and this place."""
    told_before = sea.told(person.clothes, person.raft)
    person.clothes = clothes
    person.raft = raft
    person.left = rescaled(person.left, sea.told(clothes, raft), told_before)


def turn_water(sea, water):
    """Let the water be so warm, for all who wait in it."""
    for person in sea.persons:
        if person.waits() and person.raft == 0:
            told_before = sea.told_at(sea.water, person.clothes)
            person.left = rescaled(person.left, sea.told_at(water, person.clothes), told_before)
    sea.water = water


def pass_minutes(sea, minutes):
    """Let minutes go by; answer how many were lost in them."""
    lost = 0
    for person in sea.persons:
        if person.waits() and person.left < minutes:
            person.left = 0
            person.fate = LOST
            lost += 1
        elif person.waits():
            person.left -= minutes
    sea.minute += minutes
    return lost


def take_up(sea, p):
    """Take a person up, if they last so long; answer how many others were lost meanwhile."""
    person = sea.persons[p]
    lost = pass_minutes(sea, person.takes)
    if person.waits():
        person.fate = TAKEN_UP
        return lost
    return lost - 1
