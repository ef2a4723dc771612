"""After a refusal all is as it was, whatever is refused; and a question changes nothing."""

import unittest

from helper import GREATEST, START, TABLE, TO_THE_END, probe, questions, run

SETUP = [START, ("person", 0, 0, 20), ("person", 3, 1, 9), ("person", 1, 0, 1), ("person", 0, 0, 1000),
         ("person", 2, 0, 30), ("minutes", 40), ("take", 2), ("take", 3)]
PERSONS = 5
# 0, 1 and 4 are lost in SETUP with 3: so that some wait, these come behind.
LATER = [("person", 0, 0, 20), ("person", 2, 1, 30), ("minutes", 7)]
# Two changes behind these that can be done again.
TAKEN_BACK = [("minutes", 2), ("water", 0), ("back",), ("back",)]


class AsItWas(unittest.TestCase):
    def check(self, setup, persons, refused):
        plain = run(*setup, *probe(persons))[len(setup):]
        for call, number in refused:
            told = run(*setup, call, *probe(persons))[len(setup):]
            self.assertEqual(told[0], [number], call)
            self.assertEqual(told[1:], plain, call)

    def test_each_refusal(self):
        refused = [
            (("start", 5, TABLE), -22), (("start", 0, [0] * 24), -22), (("start", 0, TABLE[:23] + [10001]), -22),
            (("start", GREATEST, [GREATEST] * 24), -22),
            (("person", 4, 0, 1), -22), (("person", 0, 2, 1), -22), (("person", 0, 0, 0), -22),
            (("person", 0, 0, 1001), -22), (("person", GREATEST, GREATEST, GREATEST), -22),
            (("water", 5), -22), (("water", GREATEST), -22), (("water", 2), -17),
            (("raft", 7, 0), -2), (("raft", GREATEST, 0), -2), (("raft", 5, 2), -22), (("raft", 5, GREATEST), -22),
            (("raft", 2, 1), -16), (("raft", 3, 1), -16), (("raft", 5, 0), -17), (("raft", 6, 1), -17),
            (("clothe", 7, 0), -2), (("clothe", GREATEST, 0), -2), (("clothe", 5, 4), -22),
            (("clothe", 5, GREATEST), -22), (("clothe", 2, 0), -16), (("clothe", 3, 3), -16), (("clothe", 5, 0), -17),
            (("minutes", 0), -22), (("minutes", 1441), -22), (("minutes", GREATEST), -22),
            (("take", 7), -2), (("take", GREATEST), -2), (("take", 2), -16), (("take", 3), -16),
            (("left", 7), -2), (("left", GREATEST), -2), (("left", 2), -16), (("left", 3), -16),
            (("most", 100001), -22), (("most", GREATEST), -22), (("plan", 100001), -22), (("plan", GREATEST), -22),
            (("can", 128, 0), -22), (("can", 32, 100001), -22), (("can", GREATEST, GREATEST), -22), (("can", 4, 0), -16),
            (("without", 7), -2), (("without", GREATEST), -2), (("without", 2), -16), (("without", 3), -16),
            (("among", 7), -2), (("among", GREATEST), -2), (("among", 2), -16), (("among", 3), -16),
            (("saves", 7, 0), -2), (("saves", GREATEST, GREATEST), -2), (("saves", 5, 4), -22),
            (("saves", 5, GREATEST), -22), (("saves", 2, 0), -16), (("saves", 3, 3), -16), (("saves", 5, 0), -17),
            (("look", 7), -2), (("look", GREATEST), -2), (("row", 6), -2), (("row", GREATEST), -2),
        ]
        self.check(SETUP + LATER, PERSONS + 2, refused + [(("again",), -2)])
        self.check(SETUP + LATER + TAKEN_BACK, PERSONS + 2, refused)

    def test_nobody(self):
        refused = [(("all",), -6), (("spare",), -6), (("first",), -6), (("next",), -6)]
        self.check(SETUP, PERSONS, refused)
        self.check(SETUP + TAKEN_BACK, PERSONS, refused)

    def test_none_to_take_back(self):
        self.check([START], 0, [(("back",), -2), (("again",), -2)])
        self.check([START, ("person", 0, 0, 20), ("water", 0), ("back",), ("back",)], 1, [(("back",), -2)])
        self.check([START] + [("minutes", 1)] * 21 + [("back",)] * 20, 0, [(("back",), -2)])

    def test_the_greatest_everywhere(self):
        # Of several refusals that are due here the one that's told first is answered.
        calls = [
            (("start", GREATEST, [GREATEST] * 24), -22), (("person", GREATEST, GREATEST, GREATEST), -22),
            (("water", GREATEST), -22), (("raft", GREATEST, GREATEST), -2), (("clothe", GREATEST, GREATEST), -2),
            (("minutes", GREATEST), -22), (("take", GREATEST), -2), (("left", GREATEST), -2), (("most", GREATEST), -22),
            (("plan", GREATEST), -22), (("can", GREATEST, GREATEST), -22), (("without", GREATEST), -2),
            (("among", GREATEST), -2), (("saves", GREATEST, GREATEST), -2), (("look", GREATEST), -2),
            (("row", GREATEST), -2),
        ]
        nine = [START] + [("person", number % 4, number % 2, 10) for number in range(9)]
        for setup, persons in (([START], 0), (SETUP + LATER + TAKEN_BACK, PERSONS + 2), (nine, 9)):
            self.check(setup, persons, calls)

    def test_a_tenth(self):
        setup = [START] + [("person", number % 4, number % 2, 10) for number in range(9)]
        self.check(setup, 9, [(("person", 0, 0, 1), -28)])
        self.check(setup + TAKEN_BACK, 9, [(("person", 0, 0, 1), -28)])

    def test_too_late(self):
        setup = [START] + TO_THE_END + [("person", 0, 0, 20), ("person", 3, 1, 30)]
        refused = [(("minutes", 1), -75), (("minutes", 1440), -75), (("take", 0), -75), (("all",), -75)]
        self.check(setup, 2, refused)
        self.check(setup + [("water", 0), ("clothe", 0, 1), ("back",), ("back",)], 2, refused)

    def test_questions_change_nothing(self):
        for setup in (SETUP + LATER, SETUP + LATER + TAKEN_BACK):
            plain = run(*setup, *probe(PERSONS + 2))[len(setup):]
            asked = questions(PERSONS + 2) + [("most", 100000), ("plan", 100000), ("can", 96, 0)]
            told = run(*setup, *asked, *asked, *probe(PERSONS + 2))[len(setup):]
            self.assertEqual(told[:len(asked)], told[len(asked):2 * len(asked)])
            self.assertEqual(told[2 * len(asked):], plain)

    def test_each_question_changes_nothing(self):
        setup = SETUP + LATER + TAKEN_BACK
        plain = run(*setup, *probe(PERSONS + 2))[len(setup):]
        answered = [
            ("left", 5), ("most", 0), ("plan", 0), ("can", 96, 0), ("spare",), ("first",), ("without", 5), ("among", 6),
            ("saves", 5, 3), ("saves", 6, 0), ("next",), ("look", 2), ("look", 5), ("who",), ("row", 5), ("sums",),
            ("state",),
        ]
        for call in answered:
            told = run(*setup, call, *probe(PERSONS + 2))[len(setup):]
            self.assertGreaterEqual(told[0][0], 0, call)
            self.assertEqual(told[1:], plain, call)


if __name__ == "__main__":
    unittest.main()
