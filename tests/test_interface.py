"""The interface: what is handed in, what is given back, and that nothing is kept."""

import unittest

from hourstheyhave.rescue import answers
from helper import GREATEST, START, TABLE, TO_THE_END, line, probe, run


class Interface(unittest.TestCase):
    def test_number_by_number(self):
        calls = [0, 2, 24] + TABLE + [1, 0, 0, 50, 1, 1, 1, 60, 2, 3, 3, 0, 1, 4, 0, 1, 5, 10, 8, 0, 9, 0, 10, 0,
                                      11, 3, 0, 12, 6, 0, 7, 8, 9]
        self.assertEqual(answers(calls), [
            1, 0, 2, 0, 300, 2, 1, 610, 1, 2, 1, 600, 1, 610, 2, 10, 0, 3, 600, 610, 550, 2, 2, 3,
            10, 2, 1, 2, 0, 0, 0, 0, 0, 0, 0, 1, 1, 1, 490, 3, 1, 60, 0, 3, 1, 120, 0, 1, -2])

    def test_number_by_number_from_first_on(self):
        calls = [0, 2, 24] + TABLE + [1, 0, 0, 50, 1, 1, 1, 60, 13, 14, 0, 15, 1, 16, 0, 3, 17, 18, 1, 19, 20, 5, 21,
                                      22, 24, 23, 24, 22, 22, 22, 23, 20, 6, 18, 1]
        self.assertEqual(answers(calls), [
            1, 0, 2, 0, 300, 2, 1, 610, 2, 0, 50, 1, 1, 1, 1, 2, 2, 330, 2, 0, 300, 5, 0, 1, 1, 610, 60, 4, 2, 3, 0, 0,
            5, 0, 600, 610, 620, 630, 4, 2, 2, 0, 0, 1, 1, 4, 0, 2, 1, 1, 1, 0, 4, 0, 2, 2, 0, 1, 1, 1, 0, 1, -2, 1, 1,
            1, -2, 1, -2])

    def test_how_many_numbers_each_answers(self):
        one = [START, ("person", 0, 0, 20)]
        widths = {"first": 2, "without": 1, "among": 1, "saves": 2, "next": 2, "look": 5, "who": 4, "row": 5, "sums": 4,
                  "state": 4, "back": 1, "again": 1, "left": 3, "most": 2, "plan": 10, "can": 1, "spare": 1}
        given = {"without": (0,), "among": (0,), "saves": (0, 1), "look": (0,), "row": (0,), "left": (0,),
                 "most": (0,), "plan": (0,), "can": (1, 0)}
        calls = [(name,) + given.get(name, ()) for name in widths]
        told = run(*one, *calls)[2:]
        self.assertEqual([len(answer) for answer in told], list(widths.values()))
        self.assertGreaterEqual(min(answer[0] for answer in told), 0)

    def test_a_refusal_among_answers(self):
        # Each call is read with its own numbers, refused or not.
        refused = [("without", 9), ("among", 9), ("saves", 9, 9), ("look", 9), ("row", 9), ("back",), ("again",),
                   ("first",), ("next",)]
        told = run(START, *[call for name in refused for call in (name, ("state",))])
        self.assertEqual(told[1::2], [[-2]] * 7 + [[-6]] * 2)
        self.assertEqual(told[2::2], [[0, 2, 0, 0]] * 9)

    def test_handed_in_stays_as_it_was(self):
        calls = line([START, ("person", 0, 0, 20), ("person", 3, 1, 9)] + probe(2) + [("start", 4, TABLE)])
        copied = list(calls)
        answers(calls)
        self.assertEqual(calls, copied)

    def test_handed_in_is_not_changed_for_a_while_either(self):
        class Watched(list):
            def refuse(self, *given):
                raise AssertionError("what is handed in is changed")
            append = extend = insert = pop = remove = clear = sort = reverse = refuse
            __setitem__ = __delitem__ = __iadd__ = __imul__ = refuse

        calls = line([START, ("person", 0, 0, 20), ("person", 3, 1, 9)] + probe(2) + [("start", 4, TABLE)])
        self.assertEqual(answers(Watched(calls)), answers(calls))

    def test_nothing_is_kept(self):
        calls = line([START, ("person", 0, 0, 20), ("person", 3, 1, 9), ("back",)] + probe(2))
        first = answers(calls)
        other = answers(line([("start", 0, TABLE), ("person", 0, 0, 1), ("state",), ("again",)]))
        second = answers(calls)
        self.assertEqual(first, second)
        self.assertEqual(other, answers(line([("start", 0, TABLE), ("person", 0, 0, 1), ("state",), ("again",)])))

    def test_changes_of_another_line_cannot_be_taken_back(self):
        answers(line([START, ("minutes", 1), ("minutes", 1), ("back",)]))
        self.assertEqual(run(START, ("back",), ("again",), ("state",))[1:], [[-2], [-2], [0, 2, 0, 0]])

    def test_what_is_given_back_is_new(self):
        calls = line([START, ("person", 0, 0, 20)] + probe(1))
        first = answers(calls)
        kept = list(first)
        first.clear()
        self.assertEqual(answers(calls), kept)

    def test_kinds(self):
        told = answers(line([START, ("person", 0, 0, 20), ("person", 3, 1, 9)] + probe(2)))
        self.assertIs(type(told), list)
        for number in told:
            self.assertIs(type(number), int)

    def test_refusal_is_one_number(self):
        for answer in run(START, *probe(0), *TO_THE_END, *probe(9)):
            self.assertTrue(len(answer) == 1 or min(answer) >= 0, answer)

    def test_a_thousand_calls(self):
        nine = [("person", number % 4, number % 2, 7) for number in range(9)]
        told = run(START, *nine, *[("plan", 0), ("spare",), ("water", 1), ("water", 2), ("most", GREATEST)] * 198)
        self.assertEqual(len(told), 1000)
        self.assertEqual(told[-1], [-22])

    def test_a_thousand_calls_of_all_kinds(self):
        nine = [("person", number % 4, number % 2, 7) for number in range(9)]
        turn = [("water", 1), ("raft", 0, 1), ("clothe", 1, 0), ("minutes", 1), ("take", 2), ("all",), ("left", 3),
                ("most", 0), ("plan", 0), ("can", 24, 0), ("spare",), ("first",), ("without", 3), ("among", 3),
                ("saves", 3, 0), ("next",), ("look", 3), ("who",), ("row", 3), ("sums",), ("back",), ("again",),
                ("state",), ("start", 2, TABLE)] + nine
        calls = [START] + nine + turn * 30
        told = run(*calls)
        self.assertEqual(len(told), 1000)
        # Each turn begins with a start, so each is as the first.
        for at in range(10, 1000, len(turn)):
            self.assertEqual(told[at:at + len(turn)], told[10:10 + len(turn)])
        self.assertEqual(answers(line(calls)), answers(line(calls)))

    def test_a_thousand_changes_and_back(self):
        calls = [START] + [("minutes", 1)] * 500 + [("back",)] * 250 + [("again",)] * 249
        told = run(*calls)
        self.assertEqual(told[501:521], [[still] for still in range(19, -1, -1)])
        self.assertEqual(told[521:751], [[-2]] * 230)
        self.assertEqual(told[751:771], [[still] for still in range(19, -1, -1)])
        self.assertEqual(told[771:], [[-2]] * 229)

    def test_a_thousand_starts(self):
        self.assertEqual(answers(line([START] * 1000)), [1, 0] * 1000)


if __name__ == "__main__":
    unittest.main()
