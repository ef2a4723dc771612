"""What holds: over many crews, and many lines of changes, made by fixed seeds."""

import itertools
import random
import unittest

from helper import START, TABLE, crew, last, look_round, questions, run


def crews(count, most_persons, seed):
    chance = random.Random(seed)
    for unused in range(count):
        lefts = [chance.randint(1, 30) for unused in range(8)]
        persons = chance.randint(1, most_persons)
        yield [(chance.choice(lefts), chance.randint(1, 12)) for unused in range(persons)]


def in_time(pairs, order, t):
    gone = t
    for number in order:
        left, takes = pairs[number]
        gone += takes
        if gone > left:
            return False
    return True


def numbers(bits):
    return [number for number in range(9) if bits >> number & 1]


def change(chance):
    """A change, or one that's refused: of each of the calls of points 2 and 3."""
    p = chance.randint(0, 8)
    person = ("person", chance.randint(0, 3), chance.randint(0, 1), chance.randint(1, 200))
    return chance.choice((
        person, person, person, ("water", chance.randint(0, 4)), ("raft", p, chance.randint(0, 1)),
        ("clothe", p, chance.randint(0, 3)), ("minutes", chance.randint(1, 60)), ("take", p), ("all",),
    ))


class Holds(unittest.TestCase):
    def test_whoever_has_least_first(self):
        for pairs in crews(60, 5, 1):
            everybody = range(1 << len(pairs))
            for t in (0, 3):
                told = run(*crew(pairs), *[("can", who, t) for who in everybody])[1 + len(pairs):]
                for who in everybody:
                    some = any(in_time(pairs, order, t) for order in itertools.permutations(numbers(who)))
                    self.assertEqual(told[who], [int(some)], (pairs, who, t))

    def test_the_most(self):
        for pairs in crews(60, 5, 2):
            size, bits = last(*crew(pairs), ("most", 0))
            self.assertEqual(len(numbers(bits)), size)
            self.assertEqual(last(*crew(pairs), ("can", bits, 0)), [1])
            longest = 0
            for order in itertools.permutations(range(len(pairs))):
                for length in range(len(pairs) + 1):
                    if in_time(pairs, order[:length], 0):
                        longest = max(longest, length)
            self.assertEqual(size, longest, pairs)

    def test_like_ones_leave_out_the_least_in_which_they_differ(self):
        for pairs in crews(150, 9, 3):
            size, bits = last(*crew(pairs), ("most", 0))
            chosen = set(numbers(bits))
            for other in itertools.combinations(range(len(pairs)), size):
                by_left = sorted(other, key=lambda number: (pairs[number][0], number))
                if set(other) != chosen and in_time(pairs, by_left, 0):
                    self.assertIn(min(chosen ^ set(other)), other, (pairs, chosen, other))

    def test_the_plan_is_the_most_by_what_is_left(self):
        for pairs in crews(150, 9, 4):
            (size, bits), plan = run(*crew(pairs), ("most", 2), ("plan", 2))[-2:]
            order = sorted(numbers(bits), key=lambda number: (pairs[number][0], number))
            self.assertEqual(plan, [size] + [number + 1 for number in order] + [0] * (9 - size))

    def test_so_long_and_no_longer(self):
        tried = 0
        for pairs in crews(200, 9, 5):
            now, spare = run(*crew(pairs), ("most", 0), ("spare",))[-2:]
            if now[0] == 0:
                self.assertEqual(spare, [-6])
                continue
            tried += 1
            then, later = run(*crew(pairs), ("most", spare[0]), ("most", spare[0] + 1))[-2:]
            self.assertEqual(then[0], now[0], pairs)
            self.assertLess(later[0], now[0], pairs)
        self.assertGreater(tried, 100)

    def test_so_long_when_the_minutes_do_go_by(self):
        for pairs in crews(100, 9, 6):
            now, spare = run(*crew(pairs), ("most", 0), ("spare",))[-2:]
            if now[0] == 0:
                continue
            wait = [("minutes", spare[0])] if spare[0] else []
            self.assertEqual(last(*crew(pairs), *wait, ("most", 0))[0], now[0], pairs)
            self.assertLess(last(*crew(pairs), ("minutes", spare[0] + 1), ("most", 0))[0], now[0], pairs)

    def test_waiting_never_helps(self):
        for pairs in crews(40, 9, 7):
            told = run(*crew(pairs), *[("most", t) for t in range(32)])[1 + len(pairs):]
            sizes = [answer[0] for answer in told]
            self.assertEqual(sizes, sorted(sizes, reverse=True))

    def test_as_it_is_planned(self):
        for pairs in crews(150, 9, 8):
            plan, taken = run(*crew(pairs), ("plan", 0), ("all",))[-2:]
            if plan[0] == 0:
                self.assertEqual(taken, [-6])
                continue
            order = [number - 1 for number in plan[1:1 + plan[0]]]
            self.assertEqual(taken[:2], [plan[0], sum(pairs[number][1] for number in order)])
            by_hand = run(*crew(pairs), *[("take", number) for number in order])[1 + len(pairs):]
            self.assertEqual([answer[0] for answer in by_hand], [1] * plan[0], pairs)
            asked = [("left", number) for number in range(len(pairs))]
            after = run(*crew(pairs), ("all",), *asked)[-len(pairs):]
            self.assertEqual(run(*crew(pairs), *[("take", number) for number in order], *asked)[-len(pairs):], after)
            self.assertEqual(len([answer for answer in after if answer != [-16]]), taken[2])
            # Lost and taken up both answer -16: those of the plan are not counted as lost one by one.
            lost = len(pairs) - taken[2] - taken[0]
            self.assertEqual(sum(answer[2] for answer in by_hand), lost, pairs)
            most, unused, who, sums = run(*crew(pairs), ("most", 0), ("all",), ("who",), ("sums",))[-4:]
            self.assertEqual(who[2], most[1], pairs)
            self.assertEqual(sums, [len(pairs), taken[2], taken[0], lost], pairs)

    def test_the_first_of_the_plan(self):
        for pairs in crews(150, 9, 10):
            plan, first = run(*crew(pairs), ("minutes", 2), ("plan", 0), ("first",))[-2:]
            if plan[0] == 0:
                self.assertEqual(first, [-6])
                continue
            self.assertEqual(first, [plan[1] - 1, 2 + pairs[plan[1] - 1][1]], pairs)
            self.assertEqual(last(*crew(pairs), ("minutes", 2), ("take", first[0]))[:2], [1, first[1]], pairs)

    def test_who_has_fewest_left(self):
        for pairs in crews(150, 9, 11):
            told = run(*crew(pairs), ("minutes", 4), ("next",), *[("look", p) for p in range(len(pairs))])
            waiting = [(look[3], p) for p, look in enumerate(told[-len(pairs):]) if look[0] == 0]
            expected = [min(waiting)[1], min(waiting)[0]] if waiting else [-6]
            self.assertEqual(told[len(pairs) + 2], expected, pairs)

    def test_on_whom_it_hangs(self):
        seen = {}
        for pairs in crews(200, 9, 12):
            persons = range(len(pairs))
            asked = [("without", p) for p in persons] + [("among", p) for p in persons]
            told = run(*crew(pairs), ("most", 0), *asked)[1 + len(pairs):]
            size = told[0][0]
            sets = [who for who in range(1 << len(pairs)) if len(numbers(who)) == size and in_time(
                pairs, sorted(numbers(who), key=lambda p: pairs[p][0]), 0)]
            for p in persons:
                without, among = told[1 + p][0], told[1 + len(pairs) + p][0]
                self.assertIn(without, (size, size - 1), (pairs, p))
                self.assertEqual(without == size - 1, all(who >> p & 1 for who in sets), (pairs, p))
                self.assertEqual(among, int(any(who >> p & 1 for who in sets)), (pairs, p))
                seen[size - without, among] = True
        self.assertEqual(sorted(seen), [(0, 0), (0, 1), (1, 1)])

    def test_without_is_as_if_they_were_not_there(self):
        for pairs in crews(60, 9, 13):
            for p in range(len(pairs)):
                others = pairs[:p] + pairs[p + 1:]
                self.assertEqual(last(*crew(pairs), ("without", p))[0], last(*crew(others), ("most", 0))[0], (pairs, p))

    def test_saves_is_as_if_they_were_clothed(self):
        chance = random.Random(14)
        tried = 0
        for unused in range(60):
            calls = [("start", 2, TABLE)] + [change(chance) for unused in range(25)]
            asked = [(p, c) for p in range(9) for c in range(4)]
            told = run(*calls, *[("saves", p, c) for p, c in asked])[len(calls):]
            for (p, c), saves in zip(asked, told):
                clothed, most = run(*calls, ("clothe", p, c), ("most", 0))[-2:]
                if clothed[0] < 0:
                    self.assertEqual(saves, clothed, (calls, p, c))
                    continue
                tried += 1
                self.assertEqual(saves, [most[0], clothed[0]], (calls, p, c))
        self.assertGreater(tried, 100)

    def test_minutes_in_pieces(self):
        for pairs in crews(60, 9, 9):
            # All that's asked, but for hh_state: pieces are more changes.
            asked = [call for call in questions(len(pairs)) if call[0] != "state"] + [("minutes", 1)]
            at_once = run(*crew(pairs), ("minutes", 20), *asked)[1 + len(pairs):]
            for pieces in ([1] * 20, [7, 13], [19, 1]):
                told = run(*crew(pairs), *[("minutes", piece) for piece in pieces], *asked)[1 + len(pairs):]
                self.assertEqual(told[len(pieces):], at_once[1:])
                self.assertEqual(told[len(pieces) - 1][0], 20)
                self.assertEqual(sum(answer[1] for answer in told[:len(pieces)]), at_once[0][1])

    def test_whoever_is_lost_or_up_stays_so(self):
        told = run(START, ("person", 0, 0, 1), ("person", 0, 0, 1), ("take", 0), ("minutes", 300), ("water", 4),
                   ("raft", 0, 1), ("raft", 1, 1), ("clothe", 0, 1), ("clothe", 1, 1), ("take", 0), ("take", 1),
                   ("left", 0), ("left", 1), ("most", 0), ("all",))
        self.assertEqual(told[5:], [[2]] + [[-16]] * 8 + [[0, 0], [-6]])

    def test_whoever_is_lost_or_up_stays_so_whatever_changes(self):
        chance = random.Random(15)
        for unused in range(40):
            calls = [START]
            for unused in range(60):
                calls += [change(chance), ("who",)] + [("look", p) for p in range(9)]
            told = run(*calls)
            whos = told[2::11]
            for before, behind in zip(whos, whos[1:]):
                self.assertEqual(before[2] & ~behind[2], 0)
                self.assertEqual(before[3] & ~behind[3], 0)
            for p in range(9):
                looks = told[3 + p::11]
                for before, behind in zip(looks, looks[1:]):
                    if before[0] in (1, 2):
                        self.assertEqual(behind, before)

    def test_all_can_be_taken_back_and_done_again(self):
        chance = random.Random(16)
        looks = look_round(9) + [("who",), ("sums",), ("row", 2), ("plan", 0)]
        width = 1 + len(looks)
        for unused in range(40):
            changes = [change(chance) for unused in range(30)]
            # Without the refusals the line has as many changes as calls.
            changes = [call for call, told in zip(changes, run(START, *changes)[1:]) if told[0] >= 0][:20]
            count = len(changes)
            told = run(*[call for step in [START] + changes for call in [step] + looks])
            shown = [told[at + 1:at + width] for at in range(0, len(told), width)]
            walk = ["back"] * count + ["again"] * count
            told = run(START, *changes, *[call for name in walk for call in [(name,)] + looks])[1 + count:]
            walked = [told[at:at + width] for at in range(0, len(told), width)]
            places = list(range(count - 1, -1, -1)) + list(range(1, count + 1))
            for name, place, step in zip(walk, places, walked):
                self.assertEqual(step[0], [place if name == "back" else count - place])
                self.assertEqual(step[1], shown[place][0][:2] + [place, count - place])
                self.assertEqual(step[2:], shown[place][1:])


if __name__ == "__main__":
    unittest.main()
