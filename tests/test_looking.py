"""Point 6: hh_next, hh_look, hh_who, hh_row, hh_sums."""

import unittest

from helper import GREATEST, START, TABLE, TO_THE_END, crew, last, run

# 0 is up at minute 2, 1 is lost at 5, 2 and 3 wait.
MIXED = crew([(8, 2), (4, 1), (20, 3), (30, 3)]) + [("take", 0), ("minutes", 3)]
NINE_MIXED = crew([(8, 1)] * 3 + [(2, 1)] * 3 + [(9, 1)] * 3) + [("take", 0), ("take", 8), ("minutes", 4)]


class Next(unittest.TestCase):
    def test_nobody_waits(self):
        self.assertEqual(last(START, ("next",)), [-6])
        self.assertEqual(last(*crew([(5, 5)]), ("take", 0), ("next",)), [-6])
        self.assertEqual(last(*crew([(5, 5), (4, 1)]), ("minutes", 6), ("next",)), [-6])

    def test_fewest_left(self):
        self.assertEqual(last(*crew([(30, 1), (10, 1), (20, 1)]), ("next",)), [1, 10])
        self.assertEqual(last(*crew([(30, 1), (10, 1), (20, 1)]), ("minutes", 4), ("next",)), [1, 6])

    def test_like_ones(self):
        self.assertEqual(last(*crew([(30, 1), (20, 1), (20, 1)]), ("next",)), [1, 20])
        self.assertEqual(last(*crew([(9, 1)] * 9), ("next",)), [0, 9])
        self.assertEqual(last(*crew([(9, 1)] * 8 + [(8, 1)]), ("next",)), [8, 8])

    def test_only_who_waits(self):
        self.assertEqual(last(*MIXED, ("next",)), [2, 15])

    def test_who_cannot_be_taken_up_too(self):
        self.assertEqual(last(*crew([(30, 1), (4, 5)]), ("next",)), [1, 4])

    def test_none_left_still_waits(self):
        self.assertEqual(last(*crew([(5, 1)]), ("minutes", 5), ("next",)), [0, 0])


class Look(unittest.TestCase):
    def test_waits(self):
        for clothes in range(4):
            told = run(START, ("person", clothes, 0, 7), ("person", clothes, 1, 1000), ("look", 0), ("look", 1))
            self.assertEqual(told[3:], [[0, clothes, 0, 300 + 10 * clothes, 7],
                                        [0, clothes, 1, 600 + 10 * clothes, 1000]])

    def test_as_they_are_now(self):
        told = run(START, ("person", 1, 0, 7), ("minutes", 10), ("look", 0), ("raft", 0, 1), ("look", 0),
                   ("clothe", 0, 3), ("look", 0), ("raft", 0, 0), ("look", 0), ("water", 0), ("look", 0))
        in_raft = 300 * 610 // 310
        clothed = in_raft * 630 // 610
        out_again = clothed * 330 // 630
        self.assertEqual(told[3::2], [[0, 1, 0, 300, 7], [0, 1, 1, in_raft, 7], [0, 3, 1, clothed, 7],
                                      [0, 3, 0, out_again, 7], [0, 3, 0, out_again * 130 // 330, 7]])

    def test_none_left_still_waits(self):
        self.assertEqual(last(*crew([(5, 1)]), ("minutes", 5), ("look", 0)), [0, 0, 0, 0, 1])

    def test_taken_up(self):
        told = run(START, ("person", 2, 1, 7), ("minutes", 100), ("take", 0), ("look", 0))
        self.assertEqual(told[4], [1, 2, 1, 620 - 100 - 7, 7])

    def test_taken_up_just_in_time(self):
        self.assertEqual(last(*crew([(5, 5)]), ("take", 0), ("look", 0)), [1, 0, 0, 0, 5])

    def test_taken_up_stays_as_it_was_then(self):
        told = run(START, ("person", 2, 0, 7), ("take", 0), ("look", 0), ("minutes", 1440), ("water", 0),
                   ("person", 0, 0, 1), ("take", 1), ("look", 0))
        self.assertEqual([told[3], told[8]], [[1, 2, 0, 313, 7]] * 2)

    def test_taken_up_as_planned(self):
        told = run(*crew([(30, 4), (10, 5), (20, 6), (100, 101)]), ("all",), *[("look", p) for p in range(4)])
        self.assertEqual([answer[0] for answer in told[6:]], [1, 1, 1, 0])
        self.assertEqual([answer[3] for answer in told[6:]], [30 - 15, 10 - 5, 20 - 11, 100 - 15])

    def test_lost(self):
        told = run(START, ("person", 1, 0, 7), ("person", 3, 1, 9), ("minutes", 311), ("look", 0), ("look", 1),
                   ("water", 0), ("look", 0))
        self.assertEqual([told[4], told[5], told[7]], [[2, 1, 0, 0, 7], [0, 3, 1, 319, 9], [2, 1, 0, 0, 7]])

    def test_lost_while_taken_up(self):
        self.assertEqual(last(*crew([(4, 5)]), ("take", 0), ("look", 0)), [2, 0, 0, 0, 5])

    def test_each_of_nine(self):
        told = run(*crew([(10 + p % 8, 1 + p) for p in range(9)]), *[("look", p) for p in range(10)])[10:]
        self.assertEqual([answer[3:] for answer in told[:9]], [[10 + p % 8, 1 + p] for p in range(9)])
        self.assertEqual(told[9], [-2])

    def test_not_there(self):
        self.assertEqual(last(START, ("look", 0)), [-2])
        for p in (1, 8, 9, GREATEST):
            self.assertEqual(last(START, ("person", 0, 0, 1), ("look", p)), [-2])


class Who(unittest.TestCase):
    def test_nobody(self):
        self.assertEqual(last(START, ("who",)), [0, 0, 0, 0])

    def test_each_sort(self):
        self.assertEqual(last(*MIXED, ("who",)), [2, 0b1100, 0b0001, 0b0010])

    def test_nine(self):
        self.assertEqual(last(*crew([(9, 1)] * 9), ("who",)), [9, 511, 0, 0])
        self.assertEqual(last(*crew([(9, 1)] * 9), ("all",), ("who",)), [0, 0, 511, 0])
        self.assertEqual(last(*crew([(9, 1)] * 9), ("minutes", 10), ("who",)), [0, 0, 0, 511])
        self.assertEqual(last(*NINE_MIXED, ("who",)), [4, 0b011000110, 0b100000001, 0b000111000])

    def test_none_left_still_waits(self):
        self.assertEqual(last(*crew([(5, 1)]), ("minutes", 5), ("who",)), [1, 1, 0, 0])

    def test_lost_while_taken_up(self):
        self.assertEqual(last(*crew([(4, 5), (9, 1)]), ("take", 0), ("who",)), [1, 2, 0, 1])


class Row(unittest.TestCase):
    def test_each_place(self):
        for place in range(6):
            self.assertEqual(last(START, ("row", place)), [0] + TABLE[place * 4:place * 4 + 4])

    def test_least_and_greatest(self):
        table = [1, 10000] * 12
        self.assertEqual(last(("start", 0, table), ("row", 5)), [0, 1, 10000, 1, 10000])

    def test_no_such_place(self):
        for place in (6, 7, 23, GREATEST):
            self.assertEqual(last(START, ("row", place)), [-2])

    def test_stays(self):
        told = run(START, ("person", 0, 0, 1), ("water", 0), ("minutes", 1440), ("row", 2), ("row", 0))
        self.assertEqual(told[4:], [[0] + TABLE[8:12], [0] + TABLE[:4]])

    def test_of_the_last_start(self):
        other = list(reversed(TABLE))
        told = run(START, ("start", 0, other), ("row", 5), ("start", 5, TABLE), ("row", 5))
        self.assertEqual([told[2], told[4]], [[0] + other[20:]] * 2)


class Sums(unittest.TestCase):
    def test_nobody(self):
        self.assertEqual(last(START, ("sums",)), [0, 0, 0, 0])

    def test_each_sort(self):
        self.assertEqual(last(*MIXED, ("sums",)), [4, 2, 1, 1])

    def test_nine(self):
        self.assertEqual(last(*crew([(9, 1)] * 9), ("sums",)), [9, 9, 0, 0])
        self.assertEqual(last(*crew([(9, 1)] * 9), ("all",), ("sums",)), [9, 0, 9, 0])
        self.assertEqual(last(*crew([(9, 1)] * 9), ("minutes", 10), ("sums",)), [9, 0, 0, 9])
        self.assertEqual(last(*NINE_MIXED, ("sums",)), [9, 4, 2, 3])

    def test_none_left_still_waits(self):
        self.assertEqual(last(*crew([(5, 1)]), ("minutes", 5), ("sums",)), [1, 1, 0, 0])

    def test_at_the_last_minute(self):
        self.assertEqual(last(START, ("person", 0, 0, 1), *TO_THE_END, ("person", 0, 0, 1), ("sums",)), [2, 1, 0, 1])


if __name__ == "__main__":
    unittest.main()
