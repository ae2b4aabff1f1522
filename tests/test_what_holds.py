"""What holds, a to d, over many offices."""

import random
import unittest

from tests.asking import after, after_many, all_over, built, by_minutes, made_up


def visits_of(openings, persons):
    return after(built(openings, persons), *[("times", i) for i in range(len(persons))])


def begins_of(openings, persons):
    return [times[2] for times in visits_of(openings, persons)]


def no_worse(source, openings, persons):
    """The same persons in an office that may have a window more, open sooner, who come sooner, are served faster."""
    openings = [max(0, opening - source.choice((0, 0, 3, 40, 300))) for opening in openings]
    if len(openings) < 5 and source.random() < 0.5:
        openings.insert(source.randint(0, len(openings)), source.randint(0, 300))
    # sorted, each is still no later than the one it stands for, since those are sorted too
    comings = sorted(max(0, comes - source.choice((0, 0, 1, 9, 70))) for comes, minutes in persons)
    served = [max(0, minutes - source.choice((0, 0, 1, 5, 60))) for comes, minutes in persons]
    return openings, list(zip(comings, served))


class WhatHolds(unittest.TestCase):

    def each(self, check, seed, count, least=0):
        source = random.Random(seed)
        for number in range(count):
            openings, persons = made_up(source, least)
            with self.subTest(openings=openings, persons=persons):
                check(source, openings, persons)

    def no_later(self, sooner, later):
        self.assertEqual(len(sooner), len(later))
        for one, other in zip(sooner, later):
            self.assertLessEqual(one, other)

    def test_a_in_an_office_no_worse_nobody_begins_later(self):
        def check(source, openings, persons):
            better = no_worse(source, openings, persons)
            self.no_later(begins_of(*better), begins_of(openings, persons))

        self.each(check, 17, 400)

    def test_a_who_stays_away_makes_nobody_later(self):
        def check(source, openings, persons):
            if persons:
                gone = source.randrange(len(persons))
                begins = begins_of(openings, persons)
                left = begins_of(openings, persons[:gone] + persons[gone + 1:])
                self.no_later(left, begins[:gone] + begins[gone + 1:])

        self.each(check, 19, 200)

    def test_a_so_what_is_saved_is_all_that_is_waited_less(self):
        def check(source, openings, persons):
            questions = [("more", source.randint(0, 300)), ("earlier", source.randrange(len(openings)), 30)]
            for who in range(len(persons)):
                questions.extend([("without", who), ("faster", who, source.randint(0, 60))])
            found = after(built(openings, persons), ("sum",), ("over",), *questions)
            for saved, waits, over in found[2:]:
                self.assertEqual(saved + waits, found[0][0])
                self.assertGreaterEqual(saved, 0)
                self.assertLessEqual(over, found[1][0])

        self.each(check, 23, 150)

    def test_a_windows_that_come_with_open(self):
        def check(source, openings, persons):
            count = len(persons)
            questions = [("times", i) for i in range(count)]
            found = after(built(openings, persons), *questions, ("open", source.randint(0, 300)), *questions)
            self.no_later([times[2] for times in found[count + 1:]], [times[2] for times in found[:count]])

        self.each(check, 29, 150)

    def test_b_first_come_first_to_begin(self):
        def check(source, openings, persons):
            begins = begins_of(openings, persons)
            self.assertEqual(begins, sorted(begins))

        self.each(check, 11, 200)

    def test_b_nobody_waits_while_a_window_is_free(self):
        def check(source, openings, persons):
            visits = visits_of(openings, persons)
            waited = [(comes, begins - 1) for window, comes, begins, done in visits if begins > comes]
            minutes = sorted({minute for pair in waited for minute in pair})
            for minute in minutes:
                windows = [window for window, opening in enumerate(openings) if opening <= minute]
                found = after(built(openings, persons), ("line", minute), *[("at", w, minute) for w in windows])
                self.assertGreater(found[0][0], 0)
                self.assertNotIn([-33], found[1:])

        self.each(check, 13, 200)

    def test_c_so_few_are_enough_and_fewer_are_not(self):
        def check(source, openings, persons):
            if persons:
                longest = source.choice((0, 1, 7, 60, 200))
                fewest = after(built(openings, persons), ("fewest", longest))[0][0]
                self.assertIn(fewest, range(1, len(persons) + 1))
                for count in range(1, fewest + 2):
                    # no office can be started with more than five windows
                    visits = visits_of if count <= 5 else by_minutes
                    waits = [begins - comes for window, comes, begins, done in visits([0] * count, persons)]
                    self.assertEqual(max(waits) <= longest, count >= fewest)

        self.each(check, 31, 150)

    def test_c_nobody_waits_just_if_there_are_as_many_as_are_served_at_once(self):
        # each is served a minute at least: one of no minutes is served at once with nobody, but may have to wait
        def check(source, openings, persons):
            crowd = after(built(openings, persons), ("crowd",))[0][0]
            for count in range(1, 6):
                waits = after(built([0] * count, persons), ("sum",))[0][0]
                self.assertEqual(waits == 0, count >= crowd)
            if persons:
                self.assertEqual(after(built(openings, persons), ("fewest", 0)), [[crowd]])

        self.each(check, 37, 150, least=1)

    def test_c_fewer_than_are_served_at_once_are_never_enough(self):
        def check(source, openings, persons):
            if persons:
                crowd, fewest = after(built(openings, persons), ("crowd",), ("fewest", 0))
                self.assertLessEqual(crowd, fewest)

        self.each(check, 41, 150)

    def test_d_all_stays_are_all_who_are_there_minute_by_minute(self):
        def check(source, openings, persons):
            visits = visits_of(openings, persons)
            stays = sum(done - comes for window, comes, begins, done in visits)
            minutes = range(all_over(visits) + 2)
            there = after_many(built(openings, persons), [("present", minute) for minute in minutes])
            self.assertEqual(sum(found[0] for found in there), stays)

        self.each(check, 43, 60)


if __name__ == "__main__":
    unittest.main()
