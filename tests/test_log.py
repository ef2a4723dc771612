"""What point 1 says of changes: which calls are changes, that the last 20 are kept, and as they were."""

import unittest

from hourstheyhave.changing import hh_all, hh_clothe, hh_minutes, hh_person, hh_raft, hh_start, hh_take, hh_water
from hourstheyhave.log import Log
from helper import TABLE


def shown(sea):
    persons = [(person.clothes, person.raft, person.takes, person.left, person.fate) for person in sea.persons]
    return (sea.water, list(sea.table), sea.minute, persons)


class Kept(unittest.TestCase):
    def begun(self):
        log = Log()
        self.assertEqual(hh_start(log, 2, list(TABLE)), [0])
        return log

    def test_start_is_no_change(self):
        self.assertEqual(self.begun().earlier, [])

    def test_each_change_is_one(self):
        log = self.begun()
        before = []
        for change in (
            lambda: hh_person(log, 0, 0, 10), lambda: hh_person(log, 1, 0, 10), lambda: hh_person(log, 2, 1, 10),
            lambda: hh_water(log, 0), lambda: hh_raft(log, 0, 1), lambda: hh_clothe(log, 1, 3),
            lambda: hh_minutes(log, 5), lambda: hh_take(log, 0), lambda: hh_all(log),
        ):
            before.append(shown(log.now))
            self.assertGreaterEqual(change()[0], 0)
            self.assertNotEqual(shown(log.now), before[-1])
            self.assertEqual([shown(sea) for sea in log.earlier], before)

    def test_a_refusal_is_none(self):
        log = self.begun()
        hh_person(log, 0, 0, 10)
        now = log.now
        for refused in (
            hh_start(log, 5, list(TABLE)), hh_person(log, 4, 0, 1), hh_water(log, 2), hh_raft(log, 0, 0),
            hh_clothe(log, 0, 0), hh_minutes(log, 0), hh_take(log, 1),
        ):
            self.assertLess(refused[0], 0)
        self.assertIs(log.now, now)
        self.assertEqual(len(log.earlier), 1)

    def test_the_last_20(self):
        log = self.begun()
        for minute in range(1, 26):
            hh_minutes(log, 1)
            self.assertEqual(len(log.earlier), min(minute, 20))
        self.assertEqual([sea.minute for sea in log.earlier], list(range(5, 25)))

    def test_who_is_lost_has_none_left(self):
        log = self.begun()
        hh_person(log, 0, 0, 10)
        hh_minutes(log, 301)
        self.assertEqual(log.now.persons[0].left, 0)

    def test_who_was_taken_up_has_what_was_left_then(self):
        log = self.begun()
        hh_person(log, 0, 0, 10)
        hh_take(log, 0)
        hh_minutes(log, 50)
        self.assertEqual(log.now.persons[0].left, 290)

    def test_start_forgets_them(self):
        log = self.begun()
        hh_minutes(log, 1)
        hh_start(log, 0, list(TABLE))
        self.assertEqual(log.earlier, [])


if __name__ == "__main__":
    unittest.main()
