"""Made-up offices, against a model that lets the minutes go by one after another."""

import random
import unittest

from tests.asking import after, ask

LAST = 1900


def by_minutes(openings, persons):
    """For each person its window, when it comes, begins and is done."""
    frees = dict(enumerate(openings))
    visits = []
    for minute in range(LAST):
        while len(visits) < len(persons):
            comes, minutes = persons[len(visits)]
            ready = sorted((free, window) for window, free in frees.items() if free <= minute)
            if comes > minute or not ready:
                break
            window = ready[0][1]
            frees[window] = minute + minutes
            visits.append([window, comes, minute, minute + minutes])
    return visits


def made_up(source):
    openings = [source.randrange(source.choice((1, 8, 40, 301))) for window in range(source.randint(1, 5))]
    count = source.randint(0, 20)
    latest = source.choice((1, 10, 60, 301))
    longest = source.choice((1, 4, 20, 61))
    comings = sorted(source.randrange(latest) for person in range(count))
    return openings, [(comes, source.randrange(longest)) for comes in comings]


def built(openings, persons):
    return [("start", *openings)] + [("come", comes, minutes) for comes, minutes in persons]


def counted(found):
    return [len(found)] + found


class ByMinutes(unittest.TestCase):

    def each(self, check):
        source = random.Random(7)
        for number in range(150):
            openings, persons = made_up(source)
            with self.subTest(openings=openings, persons=persons):
                check(source, openings, persons, by_minutes(openings, persons))

    def test_persons(self):
        self.each(self.check_persons)

    def check_persons(self, source, openings, persons, visits):
        before = built(openings, persons)
        waits = [begins - comes for window, comes, begins, done in visits]
        count = len(persons)
        self.assertEqual(after(before, *[("times", i) for i in range(count)]), visits)
        self.assertEqual(after(before, *[("wait", i) for i in range(count)]), [[wait] for wait in waits])
        longest = [max(waits), waits.index(max(waits))] if waits else [-6]
        over = max((visit[3] for visit in visits), default=0)
        self.assertEqual(after(before, ("sum",), ("longest",), ("over",)), [[sum(waits)], longest, [over]])

    def test_minutes(self):
        self.each(self.check_minutes)

    def check_minutes(self, source, openings, persons, visits):
        before = built(openings, persons)
        over = max((visit[3] for visit in visits), default=0)
        minutes = [source.randint(0, over + 1) for turn in range(50)]
        there = [[sum(v[1] <= t < v[3] for v in visits)] for t in minutes]
        lines = [counted([i for i, v in enumerate(visits) if v[1] <= t < v[2]]) for t in minutes]
        self.assertEqual(after(before, *[("present", t) for t in minutes]), there)
        self.assertEqual(after(before, *[("line", t) for t in minutes]), lines)

    def test_windows(self):
        self.each(self.check_windows)

    def check_windows(self, source, openings, persons, visits):
        before = built(openings, persons)
        over = max((visit[3] for visit in visits), default=0)
        for window in range(len(openings)):
            minutes = [source.randint(0, over + 1) for turn in range(20)]
            whos = [[i for i, v in enumerate(visits) if v[0] == window and v[2] <= t < v[3]] for t in minutes]
            self.assertEqual(after(before, *[("at", window, t) for t in minutes]), [who or [-33] for who in whos])
            goers = [i for i, v in enumerate(visits) if v[0] == window]
            self.assertEqual(after(before, ("of", window)), [counted(goers)])

    def test_leave(self):
        self.each(self.check_leave)

    def check_leave(self, source, openings, persons, visits):
        if persons:
            gone = source.randrange(len(persons))
            left = persons[:gone] + persons[gone + 1:]
            questions = [("times", i) for i in range(len(left))]
            found = after(built(openings, persons), ("leave", gone), *questions, ("times", len(left)))
            self.assertEqual(found[0], [visits[gone][2] - visits[gone][1]])
            self.assertEqual(found[1:], by_minutes(openings, left) + [[-2]])


class WhatHolds(unittest.TestCase):

    def test_first_come_first_to_begin(self):
        source = random.Random(11)
        for number in range(100):
            openings, persons = made_up(source)
            found = after(built(openings, persons), *[("times", i) for i in range(len(persons))])
            begins = [times[2] for times in found]
            self.assertEqual(begins, sorted(begins))

    def test_all_stays_are_all_who_are_there_minute_by_minute(self):
        openings, persons = [4, 0, 9], [(0, 8), (0, 0), (1, 20), (1, 7), (6, 0), (6, 31), (30, 2)]
        before = built(openings, persons)
        stays = sum(times[3] - times[1] for times in after(before, *[("times", i) for i in range(len(persons))]))
        there = sum(found[0] for found in after(before, *[("present", t) for t in range(100)]))
        self.assertEqual(there, stays)

    def test_nobody_waits_while_a_window_is_free(self):
        source = random.Random(13)
        for number in range(100):
            openings, persons = made_up(source)
            before = built(openings, persons)
            minute = source.randint(0, 80)
            line = ask(*before, ("line", minute))[-1]
            at = after(before, *[("at", window, minute) for window in range(len(openings))])
            if line[0] > 0:
                for window, opening in enumerate(openings):
                    self.assertTrue(at[window] != [-33] or opening > minute)


if __name__ == "__main__":
    unittest.main()
