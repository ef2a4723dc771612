"""Point 2: hh_person, hh_water, hh_raft, hh_clothe."""

import unittest

from helper import GREATEST, START, TABLE, TO_THE_END, last, run


class Persons(unittest.TestCase):
    def test_each_cell_of_the_table(self):
        for water in range(5):
            for clothes in range(4):
                told = run(("start", water, TABLE), ("person", clothes, 0, 1), ("person", clothes, 1, 1))
                self.assertEqual(told[1:], [[0, TABLE[water * 4 + clothes]], [1, TABLE[20 + clothes]]])

    def test_least_and_greatest_of_the_table(self):
        self.assertEqual(run(("start", 0, [1] * 24), ("person", 0, 0, 1))[1], [0, 1])
        self.assertEqual(run(("start", 4, [10000] * 24), ("person", 3, 1, 1000))[1], [0, 10000])

    def test_clothes(self):
        self.assertEqual(last(START, ("person", 3, 0, 1)), [0, 330])
        for clothes in (4, 5, GREATEST):
            self.assertEqual(last(START, ("person", clothes, 0, 1)), [-22])

    def test_raft(self):
        self.assertEqual(last(START, ("person", 0, 0, 1)), [0, 300])
        self.assertEqual(last(START, ("person", 0, 1, 1)), [0, 600])
        for raft in (2, 3, GREATEST):
            self.assertEqual(last(START, ("person", 0, raft, 1)), [-22])

    def test_takes(self):
        for takes in (1, 2, 999, 1000):
            self.assertEqual(last(START, ("person", 0, 0, takes)), [0, 300])
        for takes in (0, 1001, GREATEST):
            self.assertEqual(last(START, ("person", 0, 0, takes)), [-22])

    def test_takes_is_kept(self):
        told = run(START, ("person", 0, 0, 1), ("person", 0, 0, 1000), ("take", 0), ("take", 1))
        self.assertEqual(told[3:], [[1, 1, 0], [2, 1001, 0]])

    def test_nine_and_a_tenth(self):
        told = run(START, *[("person", 0, 0, 1)] * 11)
        self.assertEqual(told[1:], [[number, 300] for number in range(9)] + [[-28], [-28]])

    def test_tenth_when_wrong(self):
        nine = [START] + [("person", 0, 0, 1)] * 9
        for wrong in (("person", 4, 0, 1), ("person", 0, 2, 1), ("person", 0, 0, 0), ("person", 0, 0, 1001)):
            self.assertEqual(last(*nine, wrong), [-22])

    def test_lost_and_taken_up_count_among_the_nine(self):
        nine = [START] + [("person", 0, 0, 1)] * 9
        self.assertEqual(last(*nine, ("take", 0), ("minutes", 1440), ("person", 0, 0, 1)), [-28])

    def test_person_told_of_later_has_the_whole(self):
        told = run(START, ("minutes", 100), ("water", 4), ("person", 1, 0, 1), ("left", 0))
        self.assertEqual(told[3:], [[0, 510], [510, 610, 509]])

    def test_person_at_the_last_minute(self):
        self.assertEqual(last(START, *TO_THE_END, ("person", 0, 0, 1)), [0, 300])


class Water(unittest.TestCase):
    def test_answers_what_it_was(self):
        told = run(("start", 0, TABLE), ("water", 4), ("water", 3), ("water", 0))
        self.assertEqual(told[1:], [[0], [4], [3]])

    def test_refused(self):
        for w in (5, 6, GREATEST):
            self.assertEqual(last(START, ("water", w)), [-22])
        for w in range(5):
            self.assertEqual(last(("start", w, TABLE), ("water", w)), [-17])

    def test_changes_for_all_who_wait_in_it(self):
        told = run(START, ("person", 0, 0, 1), ("person", 3, 0, 1), ("person", 3, 1, 1), ("minutes", 7),
                   ("water", 0), ("left", 0), ("left", 1), ("left", 2))
        lefts = [answer[0] for answer in told[6:]]
        self.assertEqual(lefts, [293 * 100 // 300, 323 * 130 // 330, 623])

    def test_warmer_gives_more(self):
        told = run(START, ("person", 0, 0, 1), ("minutes", 7), ("water", 4), ("left", 0))
        self.assertEqual(told[4][0], 293 * 500 // 300)

    def test_rounded_at_each_change(self):
        told = run(START, ("person", 0, 0, 1), ("minutes", 7), ("water", 0), ("water", 2), ("left", 0))
        self.assertEqual(told[5][0], (293 * 100 // 300) * 300 // 100)

    def test_one_at_least(self):
        told = run(START, ("person", 0, 0, 1), ("minutes", 299), ("water", 0), ("left", 0))
        self.assertEqual(told[4], [1, 300, 0])

    def test_one_at_least_of_none_left(self):
        told = run(START, ("person", 0, 0, 1), ("minutes", 300), ("left", 0), ("water", 0), ("left", 0))
        self.assertEqual(told[3:], [[0, 300, 0], [2], [1, 301, 0]])

    def test_not_for_those_who_do_not_wait(self):
        told = run(START, ("person", 0, 0, 1), ("person", 0, 0, 1000), ("take", 0), ("take", 1), ("water", 0),
                   ("left", 0), ("left", 1), ("most", 0), ("take", 0), ("take", 1))
        self.assertEqual(told[5:], [[2], [-16], [-16], [0, 0], [-16], [-16]])

    def test_who_comes_out_of_the_raft_comes_into_the_water_as_it_is(self):
        told = run(START, ("person", 0, 1, 1), ("water", 0), ("raft", 0, 0))
        self.assertEqual(told[2:], [[2], [100]])


class Raft(unittest.TestCase):
    def test_into_and_out_of_it(self):
        told = run(START, ("person", 1, 0, 1), ("minutes", 7), ("raft", 0, 1), ("raft", 0, 0))
        into = 303 * 610 // 310
        self.assertEqual(told[3:], [[into], [into * 310 // 610]])

    def test_only_that_person(self):
        told = run(START, ("person", 0, 0, 1), ("person", 0, 0, 1), ("raft", 1, 1), ("left", 0), ("left", 1))
        self.assertEqual(told[3:], [[600], [300, 300, 299], [600, 600, 599]])

    def test_one_at_least(self):
        told = run(START, ("person", 0, 1, 1), ("minutes", 599), ("raft", 0, 0))
        self.assertEqual(told[-1], [1])
        told = run(START, ("person", 0, 1, 1), ("minutes", 600), ("raft", 0, 0))
        self.assertEqual(told[-1], [1])

    def test_refused(self):
        self.assertEqual(last(START, ("raft", 0, 1)), [-2])
        one = [START, ("person", 0, 0, 1)]
        for p in (1, 8, 9, GREATEST):
            self.assertEqual(last(*one, ("raft", p, 1)), [-2])
        for inside in (2, 3, GREATEST):
            self.assertEqual(last(*one, ("raft", 0, inside)), [-22])
        self.assertEqual(last(*one, ("raft", 0, 0)), [-17])
        self.assertEqual(last(START, ("person", 0, 1, 1), ("raft", 0, 1)), [-17])
        self.assertEqual(last(*one, ("take", 0), ("raft", 0, 1)), [-16])
        self.assertEqual(last(*one, ("minutes", 301), ("raft", 0, 1)), [-16])

    def test_which_refusal(self):
        one = [START, ("person", 0, 0, 1)]
        self.assertEqual(last(*one, ("raft", 1, 2)), [-2])
        self.assertEqual(last(*one, ("raft", GREATEST, GREATEST)), [-2])
        self.assertEqual(last(*one, ("take", 0), ("raft", 0, 2)), [-22])
        self.assertEqual(last(*one, ("take", 0), ("raft", 0, 0)), [-16])


class Clothe(unittest.TestCase):
    def test_in_water_and_in_a_raft(self):
        told = run(START, ("person", 1, 0, 1), ("person", 1, 1, 1), ("minutes", 7), ("clothe", 0, 3), ("clothe", 1, 0))
        self.assertEqual(told[4:], [[303 * 330 // 310], [603 * 600 // 610]])

    def test_only_that_person(self):
        told = run(START, ("person", 0, 0, 1), ("person", 0, 0, 1), ("clothe", 1, 3), ("left", 0), ("left", 1))
        self.assertEqual(told[3:], [[330], [300, 300, 299], [330, 330, 329]])

    def test_by_the_water_as_it_is(self):
        told = run(START, ("person", 0, 0, 1), ("water", 0), ("clothe", 0, 3))
        self.assertEqual(told[3], [130])

    def test_one_at_least(self):
        table = [1, 10000, 1, 1] * 6
        told = run(("start", 0, table), ("person", 1, 0, 1), ("minutes", 1), ("clothe", 0, 0), ("clothe", 0, 1))
        self.assertEqual(told[3:], [[1], [10000]])

    def test_one_at_least_of_none_left(self):
        told = run(START, ("person", 0, 0, 1), ("minutes", 300), ("clothe", 0, 1), ("left", 0))
        self.assertEqual(told[3:], [[1], [1, 301, 0]])

    def test_refused(self):
        self.assertEqual(last(START, ("clothe", 0, 1)), [-2])
        one = [START, ("person", 0, 0, 1)]
        for p in (1, 8, 9, GREATEST):
            self.assertEqual(last(*one, ("clothe", p, 1)), [-2])
        for c in (4, 5, GREATEST):
            self.assertEqual(last(*one, ("clothe", 0, c)), [-22])
        for c in range(4):
            self.assertEqual(last(START, ("person", c, 0, 1), ("clothe", 0, c)), [-17])
        self.assertEqual(last(*one, ("take", 0), ("clothe", 0, 3)), [-16])
        self.assertEqual(last(*one, ("minutes", 301), ("clothe", 0, 3)), [-16])

    def test_which_refusal(self):
        one = [START, ("person", 0, 0, 1)]
        self.assertEqual(last(*one, ("clothe", 1, 4)), [-2])
        self.assertEqual(last(*one, ("clothe", GREATEST, GREATEST)), [-2])
        self.assertEqual(last(*one, ("take", 0), ("clothe", 0, 4)), [-22])
        self.assertEqual(last(*one, ("take", 0), ("clothe", 0, 0)), [-16])


if __name__ == "__main__":
    unittest.main()
