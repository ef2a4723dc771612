"""Point 1: hh_start."""

import unittest

from helper import GREATEST, START, TABLE, last, probe, run


def with_cell(index, told):
    return TABLE[:index] + [told] + TABLE[index + 1:]


class Start(unittest.TestCase):
    def test_every_warmth(self):
        for water in range(5):
            self.assertEqual(run(("start", water, TABLE)), [[0]])

    def test_water_above_4(self):
        for water in (5, 6, 1000, GREATEST):
            self.assertEqual(run(("start", water, TABLE)), [[-22]])

    def test_each_number_of_the_table(self):
        for index in range(24):
            for told in (0, 10001, GREATEST):
                self.assertEqual(run(("start", 0, with_cell(index, told))), [[-22]], (index, told))
            for told in (1, 10000):
                self.assertEqual(run(("start", 0, with_cell(index, told))), [[0]], (index, told))

    def test_water_and_table_both_wrong(self):
        self.assertEqual(run(("start", 5, [0] * 24)), [[-22]])
        self.assertEqual(run(("start", GREATEST, [GREATEST] * 24)), [[-22]])

    def test_nobody_and_minute_0(self):
        told = run(START, ("left", 0), ("most", 0), ("plan", 0), ("can", 0, 0), ("can", 1, 0), ("spare",),
                   ("all",), ("minutes", 1), ("water", 3))
        self.assertEqual(told[1:], [[-2], [0, 0], [0] * 10, [1], [-22], [-6], [-6], [1, 0], [2]])

    def test_refused_before_the_first(self):
        self.assertEqual(run(("start", 5, TABLE), ("start", 0, [0] * 24), START, ("person", 0, 0, 1)),
                         [[-22], [-22], [0], [0, 300]])

    def test_again_forgets_all(self):
        before = [START, ("person", 0, 0, 5), ("person", 3, 1, 9), ("minutes", 40), ("take", 0), ("water", 4)]
        again = ("start", 1, list(reversed(TABLE)))
        fresh = run(again, ("person", 0, 0, 5), *probe(1))
        self.assertEqual(run(*before, again, ("person", 0, 0, 5), *probe(1))[len(before):], fresh)

    def test_again_refused_leaves_all(self):
        before = [START, ("person", 0, 0, 5), ("person", 3, 1, 9), ("minutes", 40), ("water", 4)]
        plain = run(*before, *probe(2))[len(before):]
        for wrong in (("start", 5, TABLE), ("start", 0, with_cell(23, 0)), ("start", 0, with_cell(0, 10001))):
            told = run(*before, wrong, *probe(2))[len(before):]
            self.assertEqual(told, [[-22]] + plain)

    def test_persons_may_be_nine_again(self):
        nine = [("person", 0, 0, 1)] * 9
        self.assertEqual(last(START, *nine, START, *nine), [8, 300])


if __name__ == "__main__":
    unittest.main()
