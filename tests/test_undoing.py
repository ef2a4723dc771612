"""Point 7, and what point 1 says of changes: hh_back, hh_again, hh_state."""

import unittest

from helper import GREATEST, START, TABLE, TO_THE_END, last, look_round, questions, run

# 0 is up, 1 is lost, 2 and 4 wait in the water, 3 waits in a raft.
SETUP = [START, ("person", 0, 0, 5), ("person", 0, 0, 1000), ("take", 0), ("take", 1), ("person", 0, 0, 20),
         ("person", 2, 1, 20), ("person", 3, 0, 30), ("minutes", 7)]
PERSONS = 5
SETUP_CHANGES = len(SETUP) - 1
SETUP_MINUTE = 1012
CHANGES = [
    ("person", 3, 1, 1000), ("person", 0, 0, 1), ("water", 0), ("water", 4), ("raft", 2, 1), ("raft", 3, 0),
    ("clothe", 2, 3), ("clothe", 3, 0), ("minutes", 1), ("minutes", 300), ("minutes", 1440), ("take", 2), ("take", 3),
    ("all",),
]
REFUSED = [
    ("start", 5, TABLE), ("start", 0, [0] * 24), ("person", 4, 0, 1), ("water", 2), ("water", 5), ("raft", 9, 0),
    ("raft", 2, 2), ("raft", 0, 1), ("raft", 2, 0), ("clothe", 9, 0), ("clothe", 2, 4), ("clothe", 0, 1),
    ("clothe", 2, 0), ("minutes", 0), ("minutes", 1441), ("take", 9), ("take", 0), ("take", 1),
]


class Back(unittest.TestCase):
    def test_none(self):
        self.assertEqual(run(START, ("back",), ("back",))[1:], [[-2], [-2]])

    def test_how_many_can_still_be(self):
        told = run(START, ("minutes", 1), ("minutes", 2), ("water", 0), ("back",), ("back",), ("back",), ("back",))
        self.assertEqual(told[4:], [[2], [1], [0], [-2]])

    def test_the_last_one(self):
        told = run(START, ("minutes", 1), ("minutes", 2), ("water", 0), ("back",), ("state",), ("back",), ("state",),
                   ("back",), ("state",))
        self.assertEqual(told[5::2], [[3, 2, 2, 1], [1, 2, 1, 2], [0, 2, 0, 3]])

    def test_each_sort_of_change(self):
        asked = questions(PERSONS + 1)
        count = len(asked)
        for change in CHANGES:
            calls = SETUP + asked + [change] + asked + [("back",)] + asked + [("again",)] + asked
            told = run(*calls)[len(SETUP):]
            before, behind = told[:count], told[count + 1:2 * count + 1]
            back, again = told[2 * count + 2:3 * count + 2], told[3 * count + 3:]
            self.assertGreaterEqual(told[count][0], 0, change)
            self.assertEqual([told[2 * count + 1], told[3 * count + 2]], [[SETUP_CHANGES], [0]], change)
            # The first that's asked is hh_state, where what can be taken back and done again differs.
            self.assertNotEqual(before[0][:2] + before[1:], behind[0][:2] + behind[1:], change)
            self.assertEqual(back[0], before[0][:3] + [1], change)
            self.assertEqual(back[1:], before[1:], change)
            self.assertEqual(again, behind, change)

    def test_twenty(self):
        told = run(START, *[("minutes", 1)] * 20, ("state",), *[("back",)] * 21, ("state",))
        self.assertEqual(told[21:], [[20, 2, 20, 0]] + [[left] for left in range(19, -1, -1)] + [[-2], [0, 2, 0, 20]])

    def test_a_twenty_first(self):
        told = run(START, *[("minutes", 1)] * 21, ("state",), *[("back",)] * 21, ("state",))
        self.assertEqual(told[22:], [[21, 2, 20, 0]] + [[left] for left in range(19, -1, -1)] + [[-2], [1, 2, 0, 20]])

    def test_many_more(self):
        told = run(START, *[("minutes", 1)] * 500, *[("back",)] * 22, ("state",))
        self.assertEqual(told[-3:], [[-2], [-2], [480, 2, 0, 20]])

    def test_from_the_last_minute(self):
        told = run(START, *TO_THE_END, ("minutes", 1), ("back",), ("minutes", 640), ("minutes", 1))
        self.assertEqual(told[-4:], [[-75], [19], [100000, 0], [-75]])

    def test_refusals_are_no_changes(self):
        for refused in REFUSED:
            told = run(*SETUP, refused, ("state",), ("back",), ("state",))
            self.assertLess(told[-4][0], 0, refused)
            self.assertEqual(told[-3], [SETUP_MINUTE, 2, SETUP_CHANGES, 0], refused)
            self.assertEqual(told[-1], [SETUP_MINUTE - 7, 2, SETUP_CHANGES - 1, 1], refused)

    def test_a_change_that_gives_nobody_other_minutes(self):
        told = run(("start", 0, [9] * 24), ("person", 0, 0, 1), ("raft", 0, 1), ("back",), ("look", 0), ("again",),
                   ("look", 0))
        self.assertEqual([told[4], told[6]], [[0, 0, 0, 9, 1], [0, 0, 1, 9, 1]])

    def test_person_taken_back_is_not_there(self):
        told = run(START, ("person", 0, 0, 1), ("back",), ("look", 0), ("sums",), ("person", 3, 1, 2), ("look", 0))
        self.assertEqual(told[3:], [[-2], [0, 0, 0, 0], [0, 630], [0, 3, 1, 630, 2]])

    def test_ninth_taken_back_leaves_room(self):
        nine = [("person", p % 4, 0, 1) for p in range(9)]
        told = run(START, *nine, ("person", 0, 0, 1), ("back",), ("person", 3, 1, 1), ("person", 0, 0, 1))
        self.assertEqual(told[10:], [[-28], [8], [8, 630], [-28]])

    def test_lost_and_up_wait_again(self):
        told = run(START, ("person", 0, 0, 10), ("person", 0, 0, 1), ("take", 0), ("minutes", 1440), ("who",),
                   ("back",), ("who",), ("back",), ("who",), ("left", 0))
        self.assertEqual([told[5], told[7], told[9], told[10]],
                         [[0, 0, 1, 2], [1, 2, 1, 0], [2, 3, 0, 0], [300, 300, 290]])

    def test_all_is_one_change(self):
        nine = [("person", 0, 0, 1)] * 9
        told = run(START, *nine, ("all",), ("state",), ("back",), ("who",), ("state",))
        self.assertEqual(told[10:], [[9, 9, 0], [9, 2, 10, 0], [9], [9, 511, 0, 0], [0, 2, 9, 1]])


class Again(unittest.TestCase):
    def test_none(self):
        self.assertEqual(run(START, ("again",), ("minutes", 1), ("again",))[1:], [[-2], [1, 0], [-2]])

    def test_how_many_there_still_are(self):
        told = run(START, *[("minutes", 1)] * 3, *[("back",)] * 3, *[("again",)] * 4)
        self.assertEqual(told[-4:], [[2], [1], [0], [-2]])

    def test_the_one_that_was_taken_back_last(self):
        told = run(START, ("minutes", 1), ("minutes", 2), ("water", 0), *[("back",)] * 3, ("again",), ("state",),
                   ("again",), ("state",), ("again",), ("state",))
        self.assertEqual(told[8::2], [[1, 2, 1, 2], [3, 2, 2, 1], [3, 0, 3, 0]])

    def test_as_far_as_can_be(self):
        changes = [("minutes", 1)] * 21
        told = run(START, *changes, *[("back",)] * 20, *[("again",)] * 21, ("state",), *[("back",)] * 21, ("state",))
        self.assertEqual(told[42:64], [[left] for left in range(19, -1, -1)] + [[-2], [21, 2, 20, 0]])
        self.assertEqual(told[64:], [[left] for left in range(19, -1, -1)] + [[-2], [1, 2, 0, 20]])

    def test_once_more_than_can_be_taken_back(self):
        told = run(START, ("minutes", 5), ("back",), ("back",), ("again",), ("state",))
        self.assertEqual(told[2:], [[0], [-2], [0], [5, 2, 1, 0]])

    def test_a_change_behind_one_taken_back(self):
        for change in CHANGES:
            told = run(*SETUP, ("minutes", 2), ("minutes", 3), ("back",), ("back",), change, ("again",), ("state",),
                       ("back",), ("state",))
            self.assertGreaterEqual(told[-5][0], 0, change)
            self.assertEqual(told[-4], [-2], change)
            self.assertEqual(told[-3][2:], [SETUP_CHANGES + 1, 0], change)
            self.assertEqual(told[-2:], [[SETUP_CHANGES], [SETUP_MINUTE, 2, SETUP_CHANGES, 1]], change)

    def test_a_change_behind_one_taken_back_comes_in_its_place(self):
        told = run(START, ("minutes", 1), ("minutes", 2), ("back",), ("minutes", 10), ("back",), ("state",),
                   ("again",), ("state",), ("back",), ("back",), ("state",))
        self.assertEqual([told[6], told[8], told[11]], [[1, 2, 1, 1], [11, 2, 2, 0], [0, 2, 0, 2]])

    def test_a_change_behind_some_of_twenty(self):
        changes = [("minutes", 1)] * 25
        told = run(START, *changes, *[("back",)] * 5, ("again",), ("again",), ("water", 0), ("state",))
        self.assertEqual(told[-1], [22, 0, 18, 0])
        told = run(START, *changes, *[("back",)] * 20, ("water", 0), ("state",), ("back",), ("back",))
        self.assertEqual(told[-3:], [[5, 0, 1, 0], [0], [-2]])

    def test_a_refusal_behind_one_taken_back(self):
        for refused in REFUSED:
            told = run(*SETUP, ("minutes", 2), ("minutes", 3), ("back",), ("back",), refused, ("state",), ("again",),
                       ("again",), ("again",), ("state",))
            self.assertLess(told[-6][0], 0, refused)
            self.assertEqual(told[-5], [SETUP_MINUTE, 2, SETUP_CHANGES, 2], refused)
            self.assertEqual(told[-4:-1], [[1], [0], [-2]], refused)
            self.assertEqual(told[-1], [SETUP_MINUTE + 5, 2, SETUP_CHANGES + 2, 0], refused)

    def test_a_question_behind_one_taken_back(self):
        asked = questions(PERSONS)
        told = run(*SETUP, ("minutes", 2), ("minutes", 3), ("back",), ("back",), *asked, ("again",), ("again",))
        self.assertEqual(told[-2:], [[1], [0]])

    def test_done_again_is_no_new_change(self):
        told = run(START, ("minutes", 1), ("minutes", 2), ("back",), ("back",), ("again",), ("state",), ("again",))
        self.assertEqual(told[-2:], [[1, 2, 1, 1], [0]])

    def test_to_and_fro(self):
        told = run(START, ("minutes", 1), *[("back",), ("again",)] * 400, ("state",))
        self.assertEqual(told[2:], [[0]] * 800 + [[1, 2, 1, 0]])


class BehindAStart(unittest.TestCase):
    def test_no_changes(self):
        told = run(*SETUP, ("start", 4, TABLE), ("state",), ("back",), ("again",), ("state",), ("sums",))
        self.assertEqual(told[-6:], [[0], [0, 4, 0, 0], [-2], [-2], [0, 4, 0, 0], [0, 0, 0, 0]])

    def test_none_to_be_done_again(self):
        told = run(*SETUP, ("back",), ("back",), START, ("again",), ("back",), ("state",))
        self.assertEqual(told[-3:], [[-2], [-2], [0, 2, 0, 0]])

    def test_changes_behind_it_only(self):
        told = run(*SETUP, START, ("minutes", 1), ("back",), ("back",), ("again",), ("again",), ("state",))
        self.assertEqual(told[-6:], [[1, 0], [0], [-2], [0], [-2], [1, 2, 1, 0]])

    def test_refused(self):
        told = run(*SETUP, ("back",), ("start", GREATEST, TABLE), ("state",), ("again",), ("back",))
        self.assertEqual(told[-3:], [[SETUP_MINUTE - 7, 2, SETUP_CHANGES - 1, 1], [0], [SETUP_CHANGES - 1]])


class State(unittest.TestCase):
    def test_at_the_start(self):
        for water in range(5):
            self.assertEqual(last(("start", water, TABLE), ("state",)), [0, water, 0, 0])

    def test_each(self):
        told = run(START, ("minutes", 9), ("state",), ("water", 4), ("state",), ("person", 0, 0, 30), ("state",),
                   ("take", 0), ("state",), ("back",), ("state",), ("again",), ("state",))
        self.assertEqual(told[2::2], [[9, 2, 1, 0], [9, 4, 2, 0], [9, 4, 3, 0], [39, 4, 4, 0], [9, 4, 3, 1],
                                      [39, 4, 4, 0]])

    def test_at_the_last_minute(self):
        self.assertEqual(last(START, *TO_THE_END, ("state",)), [100000, 2, 20, 0])

    def test_changes_nothing(self):
        looks = look_round(PERSONS)
        told = run(*SETUP, ("back",), *looks, *looks)[len(SETUP) + 1:]
        self.assertEqual(told[:len(looks)], told[len(looks):])


if __name__ == "__main__":
    unittest.main()
