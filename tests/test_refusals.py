"""After a refusal all is as it was, whatever is refused; and a question changes nothing."""

import unittest

from helper import GREATEST, START, TABLE, TO_THE_END, probe, run

SETUP = [START, ("person", 0, 0, 20), ("person", 3, 1, 9), ("person", 1, 0, 1), ("person", 0, 0, 1000),
         ("person", 2, 0, 30), ("minutes", 40), ("take", 2), ("take", 3)]
PERSONS = 5
# 0, 1 and 4 are lost in SETUP with 3: so that some wait, these come behind.
LATER = [("person", 0, 0, 20), ("person", 2, 1, 30), ("minutes", 7)]


class AsItWas(unittest.TestCase):
    def check(self, setup, persons, refused):
        plain = run(*setup, *probe(persons))[len(setup):]
        for call, number in refused:
            told = run(*setup, call, *probe(persons))[len(setup):]
            self.assertEqual(told[0], [number], call)
            self.assertEqual(told[1:], plain, call)

    def test_each_refusal(self):
        refused = [
            (("start", 5, TABLE), -22), (("start", 0, [0] * 24), -22), (("start", 0, TABLE[:23] + [10001]), -22),
            (("start", GREATEST, [GREATEST] * 24), -22),
            (("person", 4, 0, 1), -22), (("person", 0, 2, 1), -22), (("person", 0, 0, 0), -22),
            (("person", 0, 0, 1001), -22), (("person", GREATEST, GREATEST, GREATEST), -22),
            (("water", 5), -22), (("water", GREATEST), -22), (("water", 2), -17),
            (("raft", 7, 0), -2), (("raft", GREATEST, 0), -2), (("raft", 5, 2), -22), (("raft", 5, GREATEST), -22),
            (("raft", 2, 1), -16), (("raft", 3, 1), -16), (("raft", 5, 0), -17), (("raft", 6, 1), -17),
            (("clothe", 7, 0), -2), (("clothe", GREATEST, 0), -2), (("clothe", 5, 4), -22),
            (("clothe", 5, GREATEST), -22), (("clothe", 2, 0), -16), (("clothe", 3, 3), -16), (("clothe", 5, 0), -17),
            (("minutes", 0), -22), (("minutes", 1441), -22), (("minutes", GREATEST), -22),
            (("take", 7), -2), (("take", GREATEST), -2), (("take", 2), -16), (("take", 3), -16),
            (("left", 7), -2), (("left", GREATEST), -2), (("left", 2), -16), (("left", 3), -16),
            (("most", 100001), -22), (("most", GREATEST), -22), (("plan", 100001), -22), (("plan", GREATEST), -22),
            (("can", 128, 0), -22), (("can", 32, 100001), -22), (("can", GREATEST, GREATEST), -22), (("can", 4, 0), -16),
        ]
        self.check(SETUP + LATER, PERSONS + 2, refused)

    def test_nobody(self):
        self.check(SETUP, PERSONS, [(("all",), -6), (("spare",), -6)])

    def test_a_tenth(self):
        setup = [START] + [("person", number % 4, number % 2, 10) for number in range(9)]
        self.check(setup, 9, [(("person", 0, 0, 1), -28)])

    def test_too_late(self):
        setup = [START] + TO_THE_END + [("person", 0, 0, 20), ("person", 3, 1, 30)]
        self.check(setup, 2, [(("minutes", 1), -75), (("minutes", 1440), -75), (("take", 0), -75), (("all",), -75)])

    def test_questions_change_nothing(self):
        setup = SETUP + LATER
        plain = run(*setup, *probe(PERSONS + 2))[len(setup):]
        questions = [("left", 5), ("most", 0), ("most", 100000), ("plan", 0), ("can", 96, 0), ("spare",)]
        told = run(*setup, *questions, *questions, *probe(PERSONS + 2))[len(setup):]
        self.assertEqual(told[:6], told[6:12])
        self.assertEqual(told[12:], plain)


if __name__ == "__main__":
    unittest.main()
