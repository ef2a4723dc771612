"""Point 3: hh_minutes, hh_take, hh_all."""

import unittest

from helper import GREATEST, START, TABLE, TO_THE_END, crew, last, run

# From minute 0 to minute 99,990.
NEAR_THE_END = TO_THE_END[:-1] + [("minutes", 630)]


class Minutes(unittest.TestCase):
    def test_go_by(self):
        told = run(START, ("minutes", 1), ("minutes", 1440), ("minutes", 2))
        self.assertEqual(told[1:], [[1, 0], [1441, 0], [1443, 0]])

    def test_refused(self):
        for n in (0, 1441, 100000, 100001, GREATEST):
            self.assertEqual(last(START, ("minutes", n)), [-22])

    def test_the_last_minute(self):
        told = run(START, *TO_THE_END, ("minutes", 1), ("minutes", 1440), ("minutes", 0), ("minutes", 1441))
        self.assertEqual(told[-5:], [[100000, 0], [-75], [-75], [-22], [-22]])

    def test_beyond_the_last_minute(self):
        told = run(START, *NEAR_THE_END, ("minutes", 11), ("minutes", 10), ("minutes", 1))
        self.assertEqual(told[-3:], [[-75], [100000, 0], [-75]])

    def test_left_fewer(self):
        told = run(START, ("person", 0, 0, 1), ("person", 3, 1, 1), ("minutes", 25), ("left", 0), ("left", 1))
        self.assertEqual(told[4:], [[275, 300, 274], [605, 630, 604]])

    def test_as_many_as_were_left(self):
        told = run(*crew([(5, 1), (6, 1)]), ("minutes", 5), ("left", 0), ("left", 1))
        self.assertEqual(told[3:], [[5, 0], [0, 5, 0], [1, 6, 0]])

    def test_who_had_fewer_is_lost(self):
        told = run(*crew([(5, 1), (6, 1), (7, 1)]), ("minutes", 6), ("left", 0), ("left", 1), ("left", 2))
        self.assertEqual(told[4:], [[6, 1], [-16], [0, 6, 0], [1, 7, 0]])

    def test_lost_are_counted_once(self):
        told = run(*crew([(5, 1), (5, 1), (7, 1)]), ("minutes", 6), ("minutes", 1), ("minutes", 1), ("minutes", 1))
        self.assertEqual(told[4:], [[6, 2], [7, 0], [8, 1], [9, 0]])

    def test_taken_up_are_not_lost(self):
        told = run(*crew([(5, 1), (5, 1)]), ("take", 0), ("minutes", 1440))
        self.assertEqual(told[3:], [[1, 1, 0], [1441, 1]])


class Take(unittest.TestCase):
    def test_just_in_time(self):
        told = run(*crew([(5, 5)]), ("take", 0), ("left", 0))
        self.assertEqual(told[2:], [[1, 5, 0], [-16]])

    def test_one_fewer(self):
        told = run(*crew([(4, 5)]), ("take", 0), ("left", 0))
        self.assertEqual(told[2:], [[2, 5, 0], [-16]])

    def test_just_in_time_after_minutes(self):
        told = run(*crew([(8, 5), (7, 5)]), ("minutes", 3), ("take", 0))
        self.assertEqual(told[4], [1, 8, 1])
        told = run(*crew([(8, 5), (7, 5)]), ("minutes", 3), ("take", 1))
        self.assertEqual(told[4], [2, 8, 0])

    def test_others_lost(self):
        told = run(*crew([(20, 10), (9, 1), (10, 1), (3, 1), (11, 1)]), ("take", 0), ("left", 1), ("left", 2),
                   ("left", 3), ("left", 4))
        self.assertEqual(told[6:], [[1, 10, 2], [-16], [0, 10, 0], [-16], [1, 11, 0]])

    def test_others_lost_when_lost_too(self):
        told = run(*crew([(9, 10), (9, 1), (3, 1), (11, 1)]), ("take", 0))
        self.assertEqual(told[5], [2, 10, 2])

    def test_refused(self):
        self.assertEqual(last(START, ("take", 0)), [-2])
        one = [START, ("person", 0, 0, 1)]
        for p in (1, 8, 9, GREATEST):
            self.assertEqual(last(*one, ("take", p)), [-2])
        self.assertEqual(last(*one, ("take", 0), ("take", 0)), [-16])
        self.assertEqual(last(*one, ("minutes", 301), ("take", 0)), [-16])

    def test_beyond_the_last_minute(self):
        told = run(START, *NEAR_THE_END, ("person", 0, 0, 10), ("person", 0, 0, 11), ("take", 1), ("take", 0))
        self.assertEqual(told[-2:], [[-75], [1, 100000, 0]])

    def test_which_refusal_at_the_last_minute(self):
        told = run(START, *NEAR_THE_END, ("person", 0, 0, 10), ("person", 0, 0, 1), ("take", 0),
                   ("take", 0), ("take", 1), ("take", 2))
        self.assertEqual(told[-3:], [[-16], [-75], [-2]])

    def test_late_when_too_late_for_them_too(self):
        told = run(("start", 0, [1] * 24), *TO_THE_END, ("person", 0, 0, 1000), ("take", 0))
        self.assertEqual(told[-1], [-75])


class All(unittest.TestCase):
    def test_all_can_be(self):
        told = run(*crew([(30, 10), (10, 10), (20, 10)]), ("all",), ("left", 0), ("left", 1), ("left", 2), ("all",))
        self.assertEqual(told[4:], [[3, 30, 0], [-16], [-16], [-16], [-6]])

    def test_not_all_can_be(self):
        # 1 and 2 can't both be: 1 is left out, as the least in which the two sets differ.
        told = run(*crew([(40, 10), (10, 10), (11, 10)]), ("all",), ("left", 1))
        self.assertEqual(told[4:], [[2, 20, 0], [-16]])

    def test_some_wait_still(self):
        told = run(*crew([(100, 101), (10, 10), (1000, 1000), (20, 10), (20, 21)]), ("all",),
                   ("left", 0), ("left", 2), ("left", 4))
        self.assertEqual(told[6:], [[2, 20, 3], [80, 100, 0], [980, 1000, 0], [0, 20, 0]])

    def test_those_who_wait_are_counted_only(self):
        told = run(*crew([(10, 10), (1, 2), (50, 51)]), ("take", 0), ("person", 0, 0, 1), ("all",))
        self.assertEqual(told[4:], [[1, 10, 1], [3, 1], [1, 11, 1]])

    def test_nobody(self):
        self.assertEqual(last(START, ("all",)), [-6])
        self.assertEqual(last(*crew([(4, 5), (3, 4)]), ("all",)), [-6])
        self.assertEqual(last(*crew([(4, 5), (3, 4)]), ("minutes", 10), ("all",)), [-6])

    def test_beyond_the_last_minute(self):
        two = [("person", 0, 0, 4), ("person", 0, 0, 6)]
        self.assertEqual(last(START, *NEAR_THE_END, *two, ("all",)), [2, 100000, 0])
        self.assertEqual(last(START, *NEAR_THE_END, *two, ("person", 0, 0, 1), ("all",)), [-75])

    def test_which_refusal_at_the_last_minute(self):
        self.assertEqual(last(START, *TO_THE_END, ("all",)), [-6])
        self.assertEqual(last(START, *TO_THE_END, ("person", 0, 0, 301), ("all",)), [-6])
        self.assertEqual(last(START, *TO_THE_END, ("person", 0, 0, 300), ("all",)), [-75])

    def test_plan_that_begins_now(self):
        told = run(("start", 0, TABLE), ("person", 0, 0, 60), ("minutes", 40), ("all",))
        self.assertEqual(told[3], [1, 100, 0])
        told = run(("start", 0, TABLE), ("person", 0, 0, 60), ("minutes", 41), ("all",))
        self.assertEqual(told[3], [-6])


if __name__ == "__main__":
    unittest.main()
