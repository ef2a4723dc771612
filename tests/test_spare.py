"""Point 5: hh_spare."""

import unittest

from helper import START, TO_THE_END, crew, last, run


class Spare(unittest.TestCase):
    def test_nobody(self):
        self.assertEqual(last(START, ("spare",)), [-6])
        self.assertEqual(last(*crew([(4, 5), (1, 2)]), ("spare",)), [-6])
        self.assertEqual(last(*crew([(5, 5)]), ("take", 0), ("spare",)), [-6])
        self.assertEqual(last(*crew([(5, 5)]), ("minutes", 1), ("spare",)), [-6])

    def test_none(self):
        self.assertEqual(last(*crew([(5, 5)]), ("spare",)), [0])
        self.assertEqual(last(*crew([(5, 5), (100, 1)]), ("spare",)), [0])

    def test_one_person(self):
        self.assertEqual(last(*crew([(6, 5)]), ("spare",)), [1])
        self.assertEqual(last(("start", 0, [10000] * 24), ("person", 0, 0, 1), ("spare",)), [9999])

    def test_who_is_least_in_time_counts(self):
        self.assertEqual(last(*crew([(10, 4), (6, 4), (20, 4)]), ("spare",)), [2])
        self.assertEqual(last(*crew([(10, 4), (9, 4), (20, 4)]), ("spare",)), [2])
        self.assertEqual(last(*crew([(10, 1), (9, 1), (12, 10)]), ("spare",)), [0])

    def test_another_set_of_as_many(self):
        # The most beginning now are {1}, who has nothing to spare; {0} is as many, and has 15.
        told = run(*crew([(20, 5), (19, 19)]), ("most", 0), ("spare",), ("most", 15), ("most", 16))
        self.assertEqual(told[3:], [[1, 2], [15], [1, 1], [0, 0]])

    def test_at_the_last_minute(self):
        self.assertEqual(last(START, *TO_THE_END, ("person", 0, 0, 100), ("spare",)), [200])

    def test_after_minutes(self):
        told = run(*crew([(20, 5)]), ("spare",), ("minutes", 15), ("spare",), ("minutes", 1), ("spare",))
        self.assertEqual([told[2], told[4], told[6]], [[15], [0], [-6]])


if __name__ == "__main__":
    unittest.main()
