"""Long lines of calls, made by a fixed seed, beside a model that is written from the document's words alone."""

import copy
import itertools
import random
import unittest

from helper import GREATEST, NUMBERS, run


class Model:
    """The document, call by call, with dicts and no thought of speed."""

    CHANGES = ("person", "water", "raft", "clothe", "minutes", "take", "all")

    def answer(self, name, *given):
        before = self.taken() if name in self.CHANGES else None
        answer = getattr(self, "hh_" + name)(*given)
        if name in self.CHANGES and answer[0] >= 0:
            self.done = self.done[:self.at] + [(before, self.taken())]
            self.at += 1
            self.oldest = max(self.oldest, self.at - 20)
        return answer

    def taken(self):
        return copy.deepcopy((self.water, self.minute, self.persons))

    def put(self, taken):
        self.water, self.minute, self.persons = copy.deepcopy(taken)

    def hh_start(self, water, table):
        if water > 4 or not all(1 <= told <= 10000 for told in table):
            return [-22]
        self.water, self.table, self.minute, self.persons = water, list(table), 0, []
        # Every change since the start; those from oldest up to at can be taken back, those from at on done again.
        self.done, self.at, self.oldest = [], 0, 0
        return [0]

    def cell(self, person):
        return self.table[(5 if person["raft"] else self.water) * 4 + person["clothes"]]

    def waiting(self):
        return [number for number, person in enumerate(self.persons) if person["fate"] == "waits"]

    def absent(self, p):
        return p >= len(self.persons)

    def idle(self, p):
        return self.persons[p]["fate"] != "waits"

    def hh_person(self, clothes, raft, takes):
        if clothes > 3 or raft > 1 or not 1 <= takes <= 1000:
            return [-22]
        if len(self.persons) == 9:
            return [-28]
        person = {"clothes": clothes, "raft": raft, "takes": takes, "fate": "waits"}
        person["left"] = self.cell(person)
        self.persons.append(person)
        return [len(self.persons) - 1, person["left"]]

    def reckon(self, numbers, change):
        before = [self.cell(self.persons[p]) for p in numbers]
        change()
        for p, told in zip(numbers, before):
            self.persons[p]["left"] = max(1, self.persons[p]["left"] * self.cell(self.persons[p]) // told)

    def hh_water(self, w):
        if w > 4:
            return [-22]
        if w == self.water:
            return [-17]
        before = self.water
        in_it = [p for p in self.waiting() if not self.persons[p]["raft"]]
        self.reckon(in_it, lambda: setattr(self, "water", w))
        return [before]

    def turn(self, p, what, value, most):
        if self.absent(p):
            return [-2]
        if value > most:
            return [-22]
        if self.idle(p):
            return [-16]
        if self.persons[p][what] == value:
            return [-17]
        self.reckon([p], lambda: self.persons[p].update({what: value}))
        return [self.persons[p]["left"]]

    def hh_raft(self, p, inside):
        return self.turn(p, "raft", inside, 1)

    def hh_clothe(self, p, c):
        return self.turn(p, "clothes", c, 3)

    def pass_one(self):
        """A minute at a time: minutes in pieces are the same."""
        lost = 0
        for p in self.waiting():
            if self.persons[p]["left"] == 0:
                self.persons[p]["fate"] = "lost"
                lost += 1
            else:
                self.persons[p]["left"] -= 1
        self.minute += 1
        return lost

    def hh_minutes(self, n):
        if not 1 <= n <= 1440:
            return [-22]
        if self.minute + n > 100000:
            return [-75]
        lost = sum(self.pass_one() for unused in range(n))
        return [self.minute, lost]

    def hh_take(self, p):
        if self.absent(p):
            return [-2]
        if self.idle(p):
            return [-16]
        takes = self.persons[p]["takes"]
        if self.minute + takes > 100000:
            return [-75]
        up = self.persons[p]["left"] >= takes
        lost = sum(self.pass_one() for unused in range(takes))
        if up:
            self.persons[p]["fate"] = "up"
        return [1, self.minute, lost] if up else [2, self.minute, lost - 1]

    def by_left(self, numbers):
        return sorted(sorted(numbers), key=lambda p: self.persons[p]["left"])

    def can(self, numbers, t):
        for p in self.by_left(numbers):
            t += self.persons[p]["takes"]
            if t > self.persons[p]["left"]:
                return False
        return True

    def most(self, t):
        for size in range(len(self.waiting()), -1, -1):
            # Who is greatest when the numbers are told from the least on left out the least that differs.
            for numbers in sorted(itertools.combinations(self.waiting(), size), reverse=True):
                if self.can(numbers, t):
                    return numbers

    def hh_all(self):
        plan = self.by_left(self.most(0))
        if not plan:
            return [-6]
        if self.minute + sum(self.persons[p]["takes"] for p in plan) > 100000:
            return [-75]
        for p in plan:
            self.hh_take(p)
        return [len(plan), self.minute, len(self.waiting())]

    def hh_left(self, p):
        if self.absent(p):
            return [-2]
        if self.idle(p):
            return [-16]
        left = self.persons[p]["left"]
        return [left, self.minute + left, max(0, left - self.persons[p]["takes"])]

    def hh_most(self, t):
        if t > 100000:
            return [-22]
        return [len(self.most(t)), sum(1 << p for p in self.most(t))]

    def hh_plan(self, t):
        if t > 100000:
            return [-22]
        plan = [p + 1 for p in self.by_left(self.most(t))]
        return [len(plan)] + (plan + [0] * 9)[:9]

    def hh_can(self, who, t):
        if who >= 1 << len(self.persons) or t > 100000:
            return [-22]
        numbers = [p for p in range(9) if who >> p & 1]
        if any(self.idle(p) for p in numbers):
            return [-16]
        return [int(self.can(numbers, t))]

    def hh_spare(self):
        size = len(self.most(0))
        if size == 0:
            return [-6]
        t = 0
        while t < 100000 and len(self.most(t + 1)) == size:
            t += 1
        return [t]

    def hh_first(self):
        plan = self.by_left(self.most(0))
        return [plan[0], self.minute + self.persons[plan[0]]["takes"]] if plan else [-6]

    def hh_without(self, p):
        if self.absent(p):
            return [-2]
        if self.idle(p):
            return [-16]
        supposed = copy.deepcopy(self)
        supposed.persons[p]["fate"] = "up"
        return [len(supposed.most(0))]

    def hh_among(self, p):
        if self.absent(p):
            return [-2]
        if self.idle(p):
            return [-16]
        sets = itertools.combinations(self.waiting(), len(self.most(0)))
        return [int(any(p in numbers and self.can(numbers, 0) for numbers in sets))]

    def hh_saves(self, p, c):
        supposed = copy.deepcopy(self)
        left = supposed.hh_clothe(p, c)
        return left if left[0] < 0 else [len(supposed.most(0))] + left

    def hh_next(self):
        order = self.by_left(self.waiting())
        return [order[0], self.persons[order[0]]["left"]] if order else [-6]

    def hh_look(self, p):
        if self.absent(p):
            return [-2]
        person = self.persons[p]
        left = 0 if person["fate"] == "lost" else person["left"]
        return [("waits", "up", "lost").index(person["fate"]), person["clothes"], person["raft"], left, person["takes"]]

    def those(self):
        return [[p for p, person in enumerate(self.persons) if person["fate"] == fate] for fate in ("waits", "up", "lost")]

    def hh_who(self):
        return [len(self.waiting())] + [sum(2 ** p for p in numbers) for numbers in self.those()]

    def hh_row(self, place):
        return [0] + [self.table[place * 4 + clothes] for clothes in range(4)] if place <= 5 else [-2]

    def hh_sums(self):
        return [len(self.persons)] + [len(numbers) for numbers in self.those()]

    def hh_back(self):
        if self.at == self.oldest:
            return [-2]
        self.at -= 1
        self.put(self.done[self.at][0])
        return [self.at - self.oldest]

    def hh_again(self):
        if self.at == len(self.done):
            return [-2]
        self.put(self.done[self.at][1])
        self.at += 1
        return [len(self.done) - self.at]

    def hh_state(self):
        return [self.minute, self.water, self.at - self.oldest, len(self.done) - self.at]


class BesideTheModel(unittest.TestCase):
    def number(self, chance, ordinary, edges):
        return chance.choice(edges) if chance.random() < 0.1 else ordinary

    def start(self, chance, greatest):
        table = [chance.randint(1, greatest) for unused in range(24)]
        if chance.random() < 0.05:
            table[chance.randrange(24)] = chance.choice((0, 10001, GREATEST))
        return ("start", self.number(chance, chance.randint(0, 4), (5, GREATEST)), table)

    def call(self, chance, greatest):
        p = self.number(chance, chance.randint(0, 8), (9, GREATEST))
        t = self.number(chance, chance.randint(0, greatest), (0, 100000, 100001, GREATEST))
        others = [name for name in NUMBERS if name != "start"]
        name = chance.choice(others + ["person"] * 6 + ["back", "again"] * 2)
        if name == "person":
            return (name, self.number(chance, chance.randint(0, 3), (4, GREATEST)),
                    self.number(chance, chance.randint(0, 1), (2, GREATEST)),
                    self.number(chance, chance.randint(1, 9), (0, 1, 1000, 1001, GREATEST)))
        if name == "water":
            return (name, self.number(chance, chance.randint(0, 4), (5, GREATEST)))
        if name == "raft":
            return (name, p, self.number(chance, chance.randint(0, 1), (2, GREATEST)))
        if name in ("clothe", "saves"):
            return (name, p, self.number(chance, chance.randint(0, 3), (4, GREATEST)))
        if name == "minutes":
            return (name, self.number(chance, chance.randint(1, 6), (0, 1, 1440, 1441, GREATEST)))
        if name in ("take", "left", "without", "among", "look"):
            return (name, p)
        if name in ("most", "plan"):
            return (name, t)
        if name == "row":
            return (name, self.number(chance, chance.randint(0, 5), (6, GREATEST)))
        if name == "can":
            return (name, self.number(chance, chance.randrange(512) & chance.randrange(512), (512, GREATEST)), t)
        return (name,)

    def line(self, chance, length, restarts):
        greatest = chance.choice((3, 12, 40, 80))
        calls = [("start", chance.randint(0, 4), [chance.randint(1, greatest) for unused in range(24)])]
        while len(calls) < length:
            restart = chance.random() < restarts
            calls.append(self.start(chance, greatest) if restart else self.call(chance, greatest))
        return calls

    def check(self, calls, seen):
        model = Model()
        expected = [model.answer(*call) for call in calls]
        for call, told, wanted in zip(calls, run(*calls), expected):
            self.assertEqual(told, wanted, call)
            seen[call[0], min(wanted[0], 0)] = True

    def check_seen(self, seen):
        for name, refusals in {"start": (-22,), "person": (-22, -28), "water": (-22, -17), "minutes": (-22,),
                               "raft": (-2, -22, -16, -17), "clothe": (-2, -22, -16, -17), "take": (-2, -16),
                               "all": (-6,), "left": (-2, -16), "most": (-22,), "plan": (-22,), "can": (-22, -16),
                               "spare": (-6,), "first": (-6,), "without": (-2, -16), "among": (-2, -16),
                               "saves": (-2, -22, -16, -17), "next": (-6,), "look": (-2,), "who": (), "row": (-2,),
                               "sums": (), "back": (-2,), "again": (-2,), "state": ()}.items():
            for number in (0,) + refusals:
                self.assertIn((name, number), seen)

    def test_long_lines(self):
        chance = random.Random(58)
        seen = {}
        for unused in range(120):
            self.check(self.line(chance, 120, 0.03), seen)
        self.check_seen(seen)

    def test_lines_of_a_thousand(self):
        chance = random.Random(59)
        seen = {}
        for restarts in (0, 0.002, 0.01, 0.02):
            for unused in range(5):
                self.check(self.line(chance, 1000, restarts), seen)
        self.check_seen(seen)


if __name__ == "__main__":
    unittest.main()
