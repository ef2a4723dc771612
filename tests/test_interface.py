"""The interface: what is handed in, what is given back, and that nothing is kept."""

import unittest

from hourstheyhave.rescue import answers
from helper import GREATEST, START, TABLE, TO_THE_END, line, probe, run


class Interface(unittest.TestCase):
    def test_number_by_number(self):
        calls = [0, 2, 24] + TABLE + [1, 0, 0, 50, 1, 1, 1, 60, 2, 3, 3, 0, 1, 4, 0, 1, 5, 10, 8, 0, 9, 0, 10, 0,
                                      11, 3, 0, 12, 6, 0, 7, 8, 9]
        self.assertEqual(answers(calls), [
            1, 0, 2, 0, 300, 2, 1, 610, 1, 2, 1, 600, 1, 610, 2, 10, 0, 3, 600, 610, 550, 2, 2, 3,
            10, 2, 1, 2, 0, 0, 0, 0, 0, 0, 0, 1, 1, 1, 490, 3, 1, 60, 0, 3, 1, 120, 0, 1, -2])

    def test_handed_in_stays_as_it_was(self):
        calls = line([START, ("person", 0, 0, 20), ("person", 3, 1, 9)] + probe(2) + [("start", 4, TABLE)])
        copied = list(calls)
        answers(calls)
        self.assertEqual(calls, copied)

    def test_nothing_is_kept(self):
        calls = line([START, ("person", 0, 0, 20), ("person", 3, 1, 9)] + probe(2))
        first = answers(calls)
        other = answers(line([("start", 0, TABLE), ("person", 0, 0, 1)]))
        second = answers(calls)
        self.assertEqual(first, second)
        self.assertEqual(other, answers(line([("start", 0, TABLE), ("person", 0, 0, 1)])))

    def test_what_is_given_back_is_new(self):
        calls = line([START, ("person", 0, 0, 20)] + probe(1))
        first = answers(calls)
        kept = list(first)
        first.clear()
        self.assertEqual(answers(calls), kept)

    def test_kinds(self):
        told = answers(line([START, ("person", 0, 0, 20), ("person", 3, 1, 9)] + probe(2)))
        self.assertIs(type(told), list)
        for number in told:
            self.assertIs(type(number), int)

    def test_refusal_is_one_number(self):
        for answer in run(START, *probe(0), *TO_THE_END, *probe(9)):
            self.assertTrue(len(answer) == 1 or min(answer) >= 0, answer)

    def test_a_thousand_calls(self):
        nine = [("person", number % 4, number % 2, 7) for number in range(9)]
        told = run(START, *nine, *[("plan", 0), ("spare",), ("water", 1), ("water", 2), ("most", GREATEST)] * 198)
        self.assertEqual(len(told), 1000)
        self.assertEqual(told[-1], [-22])

    def test_a_thousand_starts(self):
        self.assertEqual(answers(line([START] * 1000)), [1, 0] * 1000)


if __name__ == "__main__":
    unittest.main()
