"""Who can be taken up in time, and in which order."""

from hourstheyhave.limits import BEGIN_MOST, WAITS


class Group:
    """Some of those who wait, told in the order of what's left.

    spare is in how many minutes taking them up may begin at the latest: it is below 0 if they aren't
    even in time when it begins now.
    """

    def __init__(self, bits, size, minutes, spare):
        self.bits = bits
        self.size = size
        self.minutes = minutes
        self.spare = spare

    def has(self, number):
        return (self.bits >> number) & 1 == 1

    def joined_by(self, number, person):
        minutes = self.minutes + person.takes
        spare = min(self.spare, person.left - minutes)
        return Group(self.bits | (1 << number), self.size + 1, minutes, spare)


def empty_group():
    return Group(0, 0, 0, BEGIN_MOST)


def numbers_by_left(sea):
    """The numbers of those who wait, who has fewer left first."""
    return sorted(sea.numbers_of(WAITS), key=lambda number: (sea.persons[number].left, number))


def numbers_within(sea, bits):
    """The numbers of those of the bits who wait, who has fewer left first."""
    return [number for number in numbers_by_left(sea) if (bits >> number) & 1 == 1]


def group_of(sea, bits):
    group = empty_group()
    for number in numbers_within(sea, bits):
        group = group.joined_by(number, sea.persons[number])
    return group


def groups_in_time(sea, t):
    """All groups that can be taken up, beginning in t minutes."""
    groups = [empty_group()]
    for number in numbers_by_left(sea):
        person = sea.persons[number]
        joined = [group.joined_by(number, person) for group in groups]
        # Who joins later makes no group's spare greater, so one that's too late can be dropped at once.
        groups.extend([group for group in joined if group.spare >= t])
    return groups


def is_better(group, other):
    """Whether the group goes before the other as the most."""
    if group.size != other.size:
        return group.size > other.size
    differing = group.bits ^ other.bits
    least = differing & -differing
    return (other.bits & least) != 0


def the_most(sea, t):
    best = empty_group()
    for group in groups_in_time(sea, t):
        if is_better(group, best):
            best = group
    return best


def the_plan(sea, t):
    """The numbers of the most, in the order in which they are taken up."""
    return numbers_within(sea, the_most(sea, t).bits)


def longest_wait(sea):
    """The greatest t, beginning in which the most are as many as beginning now."""
    return max([group.spare for group in groups_of_the_most(sea)])


def groups_of_the_most(sea):
    """All groups of as many as the most that can be taken up, beginning now."""
    groups = groups_in_time(sea, 0)
    size = max([group.size for group in groups])
    return [group for group in groups if group.size == size]


def is_among_the_most(sea, number):
    """Whether one of the groups of as many as the most has this person in it."""
    return any([group.has(number) for group in groups_of_the_most(sea)])


def size_without(sea, number):
    """How many the most were, beginning now, if this person didn't wait."""
    return max([group.size for group in groups_in_time(sea, 0) if not group.has(number)])
