"""Point 4: hh_left, hh_most, hh_plan, hh_can."""

import unittest

from helper import GREATEST, START, TO_THE_END, crew, last, run


def plan(*numbers):
    """A plan as it is answered: how many, one more than each number, 0 behind the last."""
    return [len(numbers)] + [number + 1 for number in numbers] + [0] * (9 - len(numbers))


class Left(unittest.TestCase):
    def test_left(self):
        told = run(START, ("person", 0, 0, 50), ("left", 0), ("minutes", 100), ("left", 0))
        self.assertEqual(told[2:], [[300, 300, 250], [100, 0], [200, 300, 150]])

    def test_beyond_what_taking_up_takes(self):
        for left, beyond in ((6, 1), (5, 0), (4, 0), (1, 0)):
            self.assertEqual(last(*crew([(left, 5)]), ("left", 0)), [left, left, beyond])

    def test_none_left(self):
        self.assertEqual(last(*crew([(6, 5)]), ("minutes", 6), ("left", 0)), [0, 6, 0])

    def test_minute_beyond_the_last(self):
        self.assertEqual(last(START, *TO_THE_END, ("person", 0, 1, 1), ("left", 0)), [600, 100600, 599])

    def test_refused(self):
        self.assertEqual(last(START, ("left", 0)), [-2])
        one = [START, ("person", 0, 0, 1)]
        for p in (1, 8, 9, GREATEST):
            self.assertEqual(last(*one, ("left", p)), [-2])
        self.assertEqual(last(*one, ("take", 0), ("left", 0)), [-16])
        self.assertEqual(last(*one, ("minutes", 301), ("left", 0)), [-16])


class Most(unittest.TestCase):
    def test_nobody(self):
        self.assertEqual(last(START, ("most", 0)), [0, 0])
        self.assertEqual(last(*crew([(4, 5)]), ("most", 0)), [0, 0])

    def test_just_in_time_and_one_fewer(self):
        self.assertEqual(last(*crew([(5, 5)]), ("most", 0)), [1, 1])
        self.assertEqual(last(*crew([(5, 5)]), ("most", 1)), [0, 0])
        self.assertEqual(last(*crew([(10, 4), (4, 4)]), ("most", 0)), [2, 3])
        self.assertEqual(last(*crew([(8, 4), (4, 4)]), ("most", 0)), [2, 3])
        self.assertEqual(last(*crew([(7, 4), (4, 4)]), ("most", 0)), [1, 2])

    def test_beginning_later(self):
        calls = crew([(10, 4), (6, 4), (20, 4)])
        told = run(*calls, *[("most", t) for t in (0, 2, 3, 6, 7, 16, 17, 100000)])
        self.assertEqual(told[4:], [[3, 7], [3, 7], [2, 5], [2, 5], [1, 4], [1, 4], [0, 0], [0, 0]])

    def test_all_nine(self):
        self.assertEqual(last(*crew([(9, 1)] * 9), ("most", 0)), [9, 511])
        self.assertEqual(last(*crew([(8, 1)] * 9), ("most", 0)), [8, 510])
        self.assertEqual(last(*crew([(8, 1)] * 9), ("most", 5)), [3, 448])

    def test_leaves_out_the_least_in_which_two_differ(self):
        # Two of three can be, whichever: 0 is left out.
        self.assertEqual(last(*crew([(10, 5)] * 3), ("most", 0)), [2, 6])
        # Of two with 3 only {0, 3} can be, and {1, 2} too: they differ in 0 first, so {1, 2}, though 9 is above 6.
        calls = crew([(6, 2), (7, 3), (7, 4), (9, 7)])
        self.assertEqual(run(*calls, ("can", 9, 0), ("can", 6, 0), ("can", 12, 0), ("can", 10, 0))[5:],
                         [[1], [1], [0], [0]])
        self.assertEqual(last(*calls, ("most", 0)), [2, 6])

    def test_more_goes_before_who_is_left_out(self):
        self.assertEqual(last(*crew([(1, 1), (2, 1), (3, 3)]), ("most", 0)), [2, 3])

    def test_not_those_who_have_fewest_left(self):
        # Beginning with 0 would leave nobody else in time.
        self.assertEqual(last(*crew([(10, 10), (11, 5), (12, 5)]), ("most", 0)), [2, 6])

    def test_only_those_who_wait(self):
        told = run(*crew([(5, 1), (9, 1), (9, 1)]), ("take", 1), ("minutes", 5), ("most", 0))
        self.assertEqual(told[-1], [1, 4])

    def test_t(self):
        one = [START, ("person", 0, 0, 1)]
        self.assertEqual(last(*one, ("most", 299)), [1, 1])
        self.assertEqual(last(*one, ("most", 300)), [0, 0])
        self.assertEqual(last(*one, ("most", 100000)), [0, 0])
        for t in (100001, GREATEST):
            self.assertEqual(last(*one, ("most", t)), [-22])
            self.assertEqual(last(START, ("most", t)), [-22])

    def test_minute_does_not_matter(self):
        told = run(START, *TO_THE_END, ("person", 0, 0, 1), ("most", 299), ("most", 100000))
        self.assertEqual(told[-2:], [[1, 1], [0, 0]])


class Plan(unittest.TestCase):
    def test_nobody(self):
        self.assertEqual(last(START, ("plan", 0)), plan())
        self.assertEqual(last(*crew([(4, 5)]), ("plan", 0)), plan())

    def test_by_what_is_left(self):
        self.assertEqual(last(*crew([(30, 1), (10, 1), (20, 1)]), ("plan", 0)), plan(1, 2, 0))

    def test_like_ones_by_numbers(self):
        calls = crew([(30, 1), (10, 2), (30, 1), (10, 1), (20, 1)])
        self.assertEqual(last(*calls, ("plan", 0)), plan(1, 3, 4, 0, 2))
        self.assertEqual(last(*crew([(9, 1)] * 9), ("plan", 0)), plan(*range(9)))

    def test_by_what_is_left_now(self):
        told = run(START, ("person", 0, 0, 1), ("person", 1, 0, 1), ("plan", 0), ("clothe", 0, 3), ("plan", 0),
                   ("raft", 1, 1), ("plan", 0))
        self.assertEqual([told[3], told[5], told[7]], [plan(0, 1), plan(1, 0), plan(0, 1)])

    def test_only_the_most(self):
        self.assertEqual(last(*crew([(10, 10), (12, 5), (11, 5)]), ("plan", 0)), plan(2, 1))

    def test_beginning_later(self):
        calls = crew([(10, 4), (6, 4), (20, 4)])
        told = run(*calls, ("plan", 2), ("plan", 3), ("plan", 7), ("plan", 17))
        self.assertEqual(told[4:], [plan(1, 0, 2), plan(0, 2), plan(2), plan()])

    def test_t(self):
        one = [START, ("person", 0, 0, 1)]
        self.assertEqual(last(*one, ("plan", 299)), plan(0))
        self.assertEqual(last(*one, ("plan", 100000)), plan())
        for t in (100001, GREATEST):
            self.assertEqual(last(*one, ("plan", t)), [-22])


class Can(unittest.TestCase):
    def test_nobody_can_always_be(self):
        self.assertEqual(run(START, ("can", 0, 0), ("can", 0, 100000))[1:], [[1], [1]])
        self.assertEqual(last(*crew([(4, 5)]), ("can", 0, 100000)), [1])

    def test_just_in_time_and_one_fewer(self):
        told = run(*crew([(10, 4), (6, 4), (20, 4)]), ("can", 2, 2), ("can", 2, 3), ("can", 7, 2), ("can", 7, 3),
                   ("can", 5, 6), ("can", 5, 7), ("can", 4, 16), ("can", 4, 17))
        self.assertEqual(told[4:], [[1], [0], [1], [0], [1], [0], [1], [0]])

    def test_each_has_to_be_in_time_not_the_last_alone(self):
        self.assertEqual(last(*crew([(3, 4), (100, 1)]), ("can", 3, 0)), [0])
        self.assertEqual(last(*crew([(100, 1), (3, 4)]), ("can", 3, 0)), [0])

    def test_like_ones(self):
        self.assertEqual(last(*crew([(10, 5), (10, 5)]), ("can", 3, 0)), [1])
        self.assertEqual(last(*crew([(10, 5), (10, 6)]), ("can", 3, 0)), [0])

    def test_others_than_there_are(self):
        self.assertEqual(last(START, ("can", 1, 0)), [-22])
        one = [START, ("person", 0, 0, 1)]
        for who in (2, 3, 4, 512, 1 << 31, GREATEST):
            self.assertEqual(last(*one, ("can", who, 0)), [-22])
        nine = crew([(9, 1)] * 9)
        self.assertEqual(run(*nine, ("can", 511, 0), ("can", 512, 0), ("can", 1023, 0))[10:], [[1], [-22], [-22]])

    def test_t(self):
        one = [START, ("person", 0, 0, 1)]
        self.assertEqual(last(*one, ("can", 1, 100000)), [0])
        for t in (100001, GREATEST):
            self.assertEqual(last(*one, ("can", 1, t)), [-22])
            self.assertEqual(last(*one, ("can", 0, t)), [-22])

    def test_one_does_not_wait(self):
        calls = crew([(5, 1), (9, 1), (9, 1)]) + [("take", 1), ("minutes", 5)]
        told = run(*calls, *[("can", who, 0) for who in range(8)])
        self.assertEqual(told[-8:], [[1], [-16], [-16], [-16], [1], [-16], [-16], [-16]])

    def test_which_refusal(self):
        calls = crew([(5, 1), (9, 1)]) + [("take", 0)]
        self.assertEqual(last(*calls, ("can", 5, 0)), [-22])
        self.assertEqual(last(*calls, ("can", 1, 100001)), [-22])
        self.assertEqual(last(*calls, ("can", GREATEST, GREATEST)), [-22])
        self.assertEqual(last(*calls, ("can", 3, 100000)), [-16])


if __name__ == "__main__":
    unittest.main()
