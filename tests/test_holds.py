"""What holds, as far as it speaks of the calls up to hh_spare: over many crews made by a fixed seed."""

import itertools
import random
import unittest

from helper import START, crew, last, run


def crews(count, most_persons, seed):
    chance = random.Random(seed)
    for unused in range(count):
        lefts = [chance.randint(1, 30) for unused in range(8)]
        persons = chance.randint(1, most_persons)
        yield [(chance.choice(lefts), chance.randint(1, 12)) for unused in range(persons)]


def in_time(pairs, order, t):
    gone = t
    for number in order:
        left, takes = pairs[number]
        gone += takes
        if gone > left:
            return False
    return True


def numbers(bits):
    return [number for number in range(9) if bits >> number & 1]


class Holds(unittest.TestCase):
    def test_whoever_has_least_first(self):
        for pairs in crews(60, 5, 1):
            everybody = range(1 << len(pairs))
            for t in (0, 3):
                told = run(*crew(pairs), *[("can", who, t) for who in everybody])[1 + len(pairs):]
                for who in everybody:
                    some = any(in_time(pairs, order, t) for order in itertools.permutations(numbers(who)))
                    self.assertEqual(told[who], [int(some)], (pairs, who, t))

    def test_the_most(self):
        for pairs in crews(60, 5, 2):
            size, bits = last(*crew(pairs), ("most", 0))
            self.assertEqual(len(numbers(bits)), size)
            self.assertEqual(last(*crew(pairs), ("can", bits, 0)), [1])
            longest = 0
            for order in itertools.permutations(range(len(pairs))):
                for length in range(len(pairs) + 1):
                    if in_time(pairs, order[:length], 0):
                        longest = max(longest, length)
            self.assertEqual(size, longest, pairs)

    def test_like_ones_leave_out_the_least_in_which_they_differ(self):
        for pairs in crews(150, 9, 3):
            size, bits = last(*crew(pairs), ("most", 0))
            chosen = set(numbers(bits))
            for other in itertools.combinations(range(len(pairs)), size):
                by_left = sorted(other, key=lambda number: (pairs[number][0], number))
                if set(other) != chosen and in_time(pairs, by_left, 0):
                    self.assertIn(min(chosen ^ set(other)), other, (pairs, chosen, other))

    def test_the_plan_is_the_most_by_what_is_left(self):
        for pairs in crews(150, 9, 4):
            (size, bits), plan = run(*crew(pairs), ("most", 2), ("plan", 2))[-2:]
            order = sorted(numbers(bits), key=lambda number: (pairs[number][0], number))
            self.assertEqual(plan, [size] + [number + 1 for number in order] + [0] * (9 - size))

    def test_so_long_and_no_longer(self):
        tried = 0
        for pairs in crews(200, 9, 5):
            now, spare = run(*crew(pairs), ("most", 0), ("spare",))[-2:]
            if now[0] == 0:
                self.assertEqual(spare, [-6])
                continue
            tried += 1
            then, later = run(*crew(pairs), ("most", spare[0]), ("most", spare[0] + 1))[-2:]
            self.assertEqual(then[0], now[0], pairs)
            self.assertLess(later[0], now[0], pairs)
        self.assertGreater(tried, 100)

    def test_so_long_when_the_minutes_do_go_by(self):
        for pairs in crews(100, 9, 6):
            now, spare = run(*crew(pairs), ("most", 0), ("spare",))[-2:]
            if now[0] == 0:
                continue
            wait = [("minutes", spare[0])] if spare[0] else []
            self.assertEqual(last(*crew(pairs), *wait, ("most", 0))[0], now[0], pairs)
            self.assertLess(last(*crew(pairs), ("minutes", spare[0] + 1), ("most", 0))[0], now[0], pairs)

    def test_waiting_never_helps(self):
        for pairs in crews(40, 9, 7):
            told = run(*crew(pairs), *[("most", t) for t in range(32)])[1 + len(pairs):]
            sizes = [answer[0] for answer in told]
            self.assertEqual(sizes, sorted(sizes, reverse=True))

    def test_as_it_is_planned(self):
        for pairs in crews(150, 9, 8):
            plan, taken = run(*crew(pairs), ("plan", 0), ("all",))[-2:]
            if plan[0] == 0:
                self.assertEqual(taken, [-6])
                continue
            order = [number - 1 for number in plan[1:1 + plan[0]]]
            self.assertEqual(taken[:2], [plan[0], sum(pairs[number][1] for number in order)])
            by_hand = run(*crew(pairs), *[("take", number) for number in order])[1 + len(pairs):]
            self.assertEqual([answer[0] for answer in by_hand], [1] * plan[0], pairs)
            asked = [("left", number) for number in range(len(pairs))]
            after = run(*crew(pairs), ("all",), *asked)[-len(pairs):]
            self.assertEqual(run(*crew(pairs), *[("take", number) for number in order], *asked)[-len(pairs):], after)
            self.assertEqual(len([answer for answer in after if answer != [-16]]), taken[2])
            # Lost and taken up both answer -16: those of the plan are not counted as lost one by one.
            lost = len(pairs) - taken[2] - taken[0]
            self.assertEqual(sum(answer[2] for answer in by_hand), lost, pairs)

    def test_minutes_in_pieces(self):
        for pairs in crews(60, 9, 9):
            asked = [("left", number) for number in range(len(pairs))] + [("most", 0), ("plan", 1), ("minutes", 1)]
            at_once = run(*crew(pairs), ("minutes", 20), *asked)[1 + len(pairs):]
            for pieces in ([1] * 20, [7, 13], [19, 1]):
                told = run(*crew(pairs), *[("minutes", piece) for piece in pieces], *asked)[1 + len(pairs):]
                self.assertEqual(told[len(pieces):], at_once[1:])
                self.assertEqual(told[len(pieces) - 1][0], 20)
                self.assertEqual(sum(answer[1] for answer in told[:len(pieces)]), at_once[0][1])

    def test_whoever_is_lost_or_up_stays_so(self):
        told = run(START, ("person", 0, 0, 1), ("person", 0, 0, 1), ("take", 0), ("minutes", 300), ("water", 4),
                   ("raft", 0, 1), ("raft", 1, 1), ("clothe", 0, 1), ("clothe", 1, 1), ("take", 0), ("take", 1),
                   ("left", 0), ("left", 1), ("most", 0), ("all",))
        self.assertEqual(told[5:], [[2]] + [[-16]] * 8 + [[0, 0], [-6]])


if __name__ == "__main__":
    unittest.main()
