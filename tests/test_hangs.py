"""Point 5: hh_first, hh_without, hh_among, hh_saves."""

import unittest

from helper import GREATEST, START, TABLE, TO_THE_END, crew, last, run

# The most are {1, 2}: with 0 nobody else is in time.
ONE_TOO_SLOW = crew([(10, 10), (11, 5), (12, 5)])


class First(unittest.TestCase):
    def test_nobody(self):
        self.assertEqual(last(START, ("first",)), [-6])
        self.assertEqual(last(*crew([(4, 5), (1, 2)]), ("first",)), [-6])
        self.assertEqual(last(*crew([(5, 5)]), ("take", 0), ("first",)), [-6])
        self.assertEqual(last(*crew([(5, 5)]), ("minutes", 1), ("first",)), [-6])
        self.assertEqual(last(*crew([(5, 5)]), ("minutes", 6), ("first",)), [-6])

    def test_who_has_least(self):
        self.assertEqual(last(*crew([(30, 9), (10, 7), (20, 5)]), ("first",)), [1, 7])

    def test_just_in_time(self):
        self.assertEqual(last(*crew([(5, 5)]), ("first",)), [0, 5])

    def test_at_which_minute(self):
        told = run(*crew([(30, 9), (10, 7), (20, 5)]), ("minutes", 3), ("first",), ("take", 1), ("first",))
        self.assertEqual(told[5:], [[1, 10], [1, 10, 0], [2, 15]])

    def test_first_of_the_plan_not_of_all(self):
        self.assertEqual(last(*ONE_TOO_SLOW, ("first",)), [1, 5])
        self.assertEqual(last(*crew([(4, 5), (50, 6), (60, 7)]), ("first",)), [1, 6])

    def test_like_ones_by_numbers(self):
        self.assertEqual(last(*crew([(30, 1), (20, 2), (20, 3)]), ("first",)), [1, 2])
        self.assertEqual(last(*crew([(9, 1)] * 9), ("first",)), [0, 1])
        # One of nine has to be left out: that's 0.
        self.assertEqual(last(*crew([(8, 1)] * 9), ("first",)), [1, 1])

    def test_the_ninth(self):
        self.assertEqual(last(*crew([(90, 1)] * 8 + [(80, 3)]), ("first",)), [8, 3])

    def test_beyond_the_last_minute(self):
        self.assertEqual(last(START, *TO_THE_END, ("person", 0, 0, 100), ("first",)), [0, 100100])


class Without(unittest.TestCase):
    def without_each(self, calls, persons):
        return [answer[0] for answer in run(*calls, *[("without", p) for p in range(persons)])[len(calls):]]

    def test_one_person(self):
        self.assertEqual(self.without_each(crew([(5, 5)]), 1), [0])

    def test_nobody_can_be(self):
        self.assertEqual(self.without_each(crew([(4, 5), (1, 2)]), 2), [0, 0])

    def test_on_whom_it_hangs(self):
        self.assertEqual(self.without_each(ONE_TOO_SLOW, 3), [2, 1, 1])

    def test_another_comes_in(self):
        self.assertEqual(self.without_each(crew([(10, 5)] * 3), 3), [2, 2, 2])

    def test_nine(self):
        self.assertEqual(self.without_each(crew([(9, 1)] * 9), 9), [8] * 9)
        self.assertEqual(self.without_each(crew([(8, 1)] * 9), 9), [8] * 9)

    def test_beginning_now(self):
        calls = ONE_TOO_SLOW + [("minutes", 2)]
        self.assertEqual(last(*calls, ("most", 0)), [2, 6])
        self.assertEqual(self.without_each(calls, 3), [2, 1, 1])
        calls = ONE_TOO_SLOW + [("minutes", 3)]
        self.assertEqual(last(*calls, ("most", 0)), [1, 4])
        self.assertEqual(self.without_each(calls, 3), [1, 1, 1])

    def test_the_others_who_wait_only(self):
        told = run(*crew([(30, 1), (30, 1), (2, 1), (30, 1)]), ("take", 0), ("minutes", 5), ("without", 1),
                   ("without", 3))
        self.assertEqual(told[-2:], [[1], [1]])

    def test_refused(self):
        self.assertEqual(last(START, ("without", 0)), [-2])
        one = [START, ("person", 0, 0, 1)]
        for p in (1, 8, 9, GREATEST):
            self.assertEqual(last(*one, ("without", p)), [-2])
        self.assertEqual(last(*one, ("take", 0), ("without", 0)), [-16])
        self.assertEqual(last(*one, ("minutes", 301), ("without", 0)), [-16])

    def test_none_left_still_waits(self):
        self.assertEqual(last(START, ("person", 0, 0, 1), ("minutes", 300), ("without", 0)), [0])


class Among(unittest.TestCase):
    def among_each(self, calls, persons):
        return [answer[0] for answer in run(*calls, *[("among", p) for p in range(persons)])[len(calls):]]

    def test_one_person(self):
        self.assertEqual(self.among_each(crew([(5, 5)]), 1), [1])

    def test_nobody_can_be(self):
        self.assertEqual(self.among_each(crew([(4, 5), (1, 2)]), 2), [0, 0])

    def test_in_no_set_of_as_many(self):
        self.assertEqual(self.among_each(ONE_TOO_SLOW, 3), [0, 1, 1])

    def test_in_another_set_of_as_many(self):
        told = run(*crew([(10, 5)] * 3), ("most", 0), ("among", 0), ("among", 1), ("among", 2))
        self.assertEqual(told[4:], [[2, 6], [1], [1], [1]])

    def test_nine(self):
        self.assertEqual(self.among_each(crew([(9, 1)] * 9), 9), [1] * 9)
        self.assertEqual(self.among_each(crew([(8, 1)] * 9), 9), [1] * 9)
        self.assertEqual(self.among_each(crew([(9, 1)] * 8 + [(9, 3)]), 9), [1] * 8 + [0])

    def test_beginning_now(self):
        self.assertEqual(self.among_each(ONE_TOO_SLOW + [("minutes", 2)], 3), [0, 1, 1])
        # One alone can be now, 1 or 2.
        self.assertEqual(self.among_each(ONE_TOO_SLOW + [("minutes", 3)], 3), [0, 1, 1])
        self.assertEqual(self.among_each(ONE_TOO_SLOW + [("minutes", 7)], 3), [0, 0, 1])

    def test_the_others_who_wait_only(self):
        # Before 1 is up it's {1, 2}; then 0 alone is as many as 2 alone.
        told = run(*crew([(12, 5), (6, 6), (12, 6)]), ("among", 0), ("take", 1), ("among", 0), ("among", 2))
        self.assertEqual([told[4], told[6], told[7]], [[1], [1], [1]])

    def test_refused(self):
        self.assertEqual(last(START, ("among", 0)), [-2])
        one = [START, ("person", 0, 0, 1)]
        for p in (1, 8, 9, GREATEST):
            self.assertEqual(last(*one, ("among", p)), [-2])
        self.assertEqual(last(*one, ("take", 0), ("among", 0)), [-16])
        self.assertEqual(last(*one, ("minutes", 301), ("among", 0)), [-16])

    def test_none_left_still_waits(self):
        self.assertEqual(last(START, ("person", 0, 0, 1), ("minutes", 300), ("among", 0)), [0])


class Saves(unittest.TestCase):
    def test_more_left(self):
        told = run(START, ("person", 0, 0, 310), ("most", 0), ("saves", 0, 1), ("saves", 0, 3))
        self.assertEqual(told[2:], [[0, 0], [1, 310], [1, 330]])

    def test_just_in_time_and_one_fewer(self):
        self.assertEqual(last(START, ("person", 0, 0, 330), ("saves", 0, 3)), [1, 330])
        self.assertEqual(last(START, ("person", 0, 0, 331), ("saves", 0, 3)), [0, 330])

    def test_fewer_left(self):
        told = run(START, ("person", 3, 0, 310), ("person", 0, 0, 1), ("most", 0), ("saves", 0, 1), ("saves", 0, 0))
        self.assertEqual(told[3:], [[2, 3], [1, 310], [1, 300]])

    def test_how_many_of_all(self):
        # Clothed better 0 can wait for 1, and worse it has to go first.
        table = [20, 40, 3, 1] + [1] * 16 + [25] * 4
        calls = [("start", 0, table), ("person", 0, 0, 15), ("person", 0, 1, 15)]
        told = run(*calls, ("most", 0), ("saves", 0, 1), ("saves", 0, 2), ("saves", 0, 3))
        self.assertEqual(told[3:], [[1, 2], [2, 40], [1, 3], [1, 1]])

    def test_rounded_down(self):
        told = run(START, ("person", 0, 0, 1), ("minutes", 7), ("saves", 0, 3), ("saves", 0, 1))
        self.assertEqual(told[3:], [[1, 293 * 330 // 300], [1, 293 * 310 // 300]])

    def test_one_at_least(self):
        table = [1, 10000, 1, 1] * 6
        told = run(("start", 0, table), ("person", 1, 0, 1), ("minutes", 1), ("saves", 0, 0))
        self.assertEqual(told[3], [1, 1])

    def test_one_at_least_of_none_left(self):
        told = run(START, ("person", 0, 0, 1), ("minutes", 300), ("most", 0), ("saves", 0, 1))
        self.assertEqual(told[3:], [[0, 0], [1, 1]])

    def test_in_a_raft(self):
        told = run(START, ("person", 1, 1, 1), ("minutes", 7), ("saves", 0, 0))
        self.assertEqual(told[3], [1, 603 * 600 // 610])

    def test_by_the_water_as_it_is(self):
        self.assertEqual(last(START, ("person", 0, 0, 1), ("water", 0), ("saves", 0, 3)), [1, 130])

    def test_only_that_person(self):
        told = run(START, ("person", 0, 0, 301), ("person", 0, 0, 301), ("saves", 1, 3), ("saves", 0, 3))
        self.assertEqual(told[3:], [[1, 330], [1, 330]])

    def test_as_if_only(self):
        told = run(START, ("person", 0, 0, 310), ("saves", 0, 3), ("look", 0), ("most", 0), ("state",),
                   ("saves", 0, 0), ("clothe", 0, 3))
        self.assertEqual(told[2:], [[1, 330], [0, 0, 0, 300, 310], [0, 0], [0, 2, 1, 0], [-17], [330]])

    def test_nine(self):
        nine = crew([(8, 1), (9, 1)] + [(8, 1)] * 7)
        self.assertEqual(last(*nine, ("most", 0)), [9, 511])
        self.assertEqual(last(*nine, ("saves", 1, 0)), [8, 8])
        self.assertEqual(last(*nine, ("saves", 8, 1)), [9, 9])

    def test_refused(self):
        self.assertEqual(last(START, ("saves", 0, 1)), [-2])
        one = [START, ("person", 0, 0, 1)]
        for p in (1, 8, 9, GREATEST):
            self.assertEqual(last(*one, ("saves", p, 1)), [-2])
        for c in (4, 5, GREATEST):
            self.assertEqual(last(*one, ("saves", 0, c)), [-22])
        for c in range(4):
            self.assertEqual(last(START, ("person", c, 0, 1), ("saves", 0, c)), [-17])
            self.assertEqual(last(START, ("person", c, 1, 1), ("saves", 0, c)), [-17])
        self.assertEqual(last(*one, ("take", 0), ("saves", 0, 3)), [-16])
        self.assertEqual(last(*one, ("minutes", 301), ("saves", 0, 3)), [-16])

    def test_worn_since(self):
        told = run(START, ("person", 0, 0, 1), ("clothe", 0, 3), ("saves", 0, 3), ("saves", 0, 0))
        self.assertEqual(told[3:], [[-17], [1, TABLE[8]]])

    def test_which_refusal(self):
        one = [START, ("person", 0, 0, 1)]
        self.assertEqual(last(*one, ("saves", 1, 4)), [-2])
        self.assertEqual(last(*one, ("saves", GREATEST, GREATEST)), [-2])
        self.assertEqual(last(*one, ("take", 0), ("saves", 0, 4)), [-22])
        self.assertEqual(last(*one, ("minutes", 301), ("saves", 0, GREATEST)), [-22])
        self.assertEqual(last(*one, ("take", 0), ("saves", 0, 0)), [-16])
        self.assertEqual(last(*one, ("minutes", 301), ("saves", 0, 0)), [-16])


if __name__ == "__main__":
    unittest.main()
