"""Made-up offices, against a model that lets the minutes go by one after another."""

import random
import unittest

from tests.asking import HIGHEST, after, all_over, all_wait, built, by_minutes, counted, made_up


def supposed(visits, others):
    return [max(0, all_wait(visits) - all_wait(others)), all_wait(others), all_over(others)]


def opened_sooner(openings, window, minutes):
    return [max(0, opening - minutes) if place == window else opening for place, opening in enumerate(openings)]


def some_minutes(source):
    return source.choice((0, source.randint(1, 10), source.randint(1, 300), HIGHEST))


def longest_wait(visits):
    return max(begins - comes for window, comes, begins, done in visits)


class ByMinutes(unittest.TestCase):

    def each(self, check):
        source = random.Random(7)
        for number in range(150):
            openings, persons = made_up(source)
            with self.subTest(openings=openings, persons=persons):
                check(source, openings, persons, by_minutes(openings, persons))

    def test_persons(self):
        self.each(self.check_persons)

    def check_persons(self, source, openings, persons, visits):
        before = built(openings, persons)
        waits = [begins - comes for window, comes, begins, done in visits]
        count = len(persons)
        self.assertEqual(after(before, *[("times", i) for i in range(count)]), visits)
        self.assertEqual(after(before, *[("wait", i) for i in range(count)]), [[wait] for wait in waits])
        longest = [max(waits), waits.index(max(waits))] if waits else [-6]
        over = all_over(visits)
        self.assertEqual(after(before, ("sum",), ("longest",), ("over",)), [[sum(waits)], longest, [over]])

    def test_minutes(self):
        self.each(self.check_minutes)

    def check_minutes(self, source, openings, persons, visits):
        before = built(openings, persons)
        over = all_over(visits)
        minutes = [source.randint(0, over + 1) for turn in range(50)]
        there = [[sum(v[1] <= t < v[3] for v in visits)] for t in minutes]
        lines = [counted([i for i, v in enumerate(visits) if v[1] <= t < v[2]]) for t in minutes]
        self.assertEqual(after(before, *[("present", t) for t in minutes]), there)
        self.assertEqual(after(before, *[("line", t) for t in minutes]), lines)

    def test_windows(self):
        self.each(self.check_windows)

    def check_windows(self, source, openings, persons, visits):
        before = built(openings, persons)
        over = all_over(visits)
        for window in range(len(openings)):
            minutes = [source.randint(0, over + 1) for turn in range(20)]
            whos = [[i for i, v in enumerate(visits) if v[0] == window and v[2] <= t < v[3]] for t in minutes]
            self.assertEqual(after(before, *[("at", window, t) for t in minutes]), [who or [-33] for who in whos])
            goers = [i for i, v in enumerate(visits) if v[0] == window]
            self.assertEqual(after(before, ("of", window)), [counted(goers)])

    def test_leave(self):
        self.each(self.check_leave)

    def check_leave(self, source, openings, persons, visits):
        if persons:
            gone = source.randrange(len(persons))
            left = persons[:gone] + persons[gone + 1:]
            questions = [("times", i) for i in range(len(left))]
            found = after(built(openings, persons), ("leave", gone), *questions, ("times", len(left)))
            self.assertEqual(found[0], [visits[gone][2] - visits[gone][1]])
            self.assertEqual(found[1:], by_minutes(openings, left) + [[-2]])

    def test_open(self):
        self.each(self.check_open)

    def check_open(self, source, openings, persons, visits):
        minute = source.randint(0, 300)
        questions = [("times", i) for i in range(len(persons))]
        found = after(built(openings, persons), ("open", minute), *questions)
        if len(openings) == 5:
            self.assertEqual(found, [[-28]] + visits)
        else:
            self.assertEqual(found, [[len(openings)]] + by_minutes(openings + [minute], persons))

    def test_more(self):
        self.each(self.check_more)

    def check_more(self, source, openings, persons, visits):
        for minute in (0, source.randint(0, 40), source.randint(0, 300), 300):
            found = after(built(openings, persons), ("more", minute))
            self.assertEqual(found, [supposed(visits, by_minutes(openings + [minute], persons))])

    def some_persons(self, source, persons):
        places = range(len(persons))
        return sorted({*places[:1], *places[-1:], *source.sample(places, min(3, len(persons)))})

    def test_without(self):
        self.each(self.check_without)

    def check_without(self, source, openings, persons, visits):
        for who in self.some_persons(source, persons):
            others = by_minutes(openings, persons[:who] + persons[who + 1:])
            self.assertEqual(after(built(openings, persons), ("without", who)), [supposed(visits, others)])

    def test_faster(self):
        self.each(self.check_faster)

    def check_faster(self, source, openings, persons, visits):
        for who in self.some_persons(source, persons):
            less = some_minutes(source)
            comes, minutes = persons[who]
            others = by_minutes(openings, persons[:who] + [(comes, max(0, minutes - less))] + persons[who + 1:])
            self.assertEqual(after(built(openings, persons), ("faster", who, less)), [supposed(visits, others)])

    def test_sooner(self):
        self.each(self.check_sooner)

    def check_sooner(self, source, openings, persons, visits):
        for who in self.some_persons(source, persons):
            less = some_minutes(source)
            comes, minutes = persons[who]
            comes = max([0, comes - less] + [earlier for earlier, served in persons[:who]])
            others = by_minutes(openings, persons[:who] + [(comes, minutes)] + persons[who + 1:])
            found = after(built(openings, persons), ("sooner", who, less))
            self.assertEqual(found, [[comes, all_wait(others), all_over(others)]])

    def test_earlier_and_best(self):
        self.each(self.check_earlier_and_best)

    def check_earlier_and_best(self, source, openings, persons, visits):
        less = some_minutes(source)
        windows = range(len(openings))
        answers = [supposed(visits, by_minutes(opened_sooner(openings, window, less), persons)) for window in windows]
        found = after(built(openings, persons), *[("earlier", window, less) for window in windows], ("best", less))
        self.assertEqual(found[:-1], answers)
        best = min(windows, key=lambda window: (-answers[window][0], window))
        self.assertEqual(found[-1], [best, answers[best][0]])

    def test_fewest(self):
        self.each(self.check_fewest)

    def check_fewest(self, source, openings, persons, visits):
        for longest in (0, source.randint(1, 10), source.randint(1, 300)):
            fewest = -33
            if persons:
                enough = [k for k in range(1, 21) if longest_wait(by_minutes([0] * k, persons)) <= longest]
                fewest = enough[0]
            self.assertEqual(after(built(openings, persons), ("fewest", longest)), [[fewest]])

    def test_crowd(self):
        self.each(self.check_crowd)

    def check_crowd(self, source, openings, persons, visits):
        served = dict.fromkeys(range(400), 0)
        for comes, minutes in persons:
            for minute in range(comes, comes + minutes):
                served[minute] += 1
        self.assertEqual(after(built(openings, persons), ("crowd",)), [[max(served.values())]])

    def test_free_and_state(self):
        self.each(self.check_free_and_state)

    def check_free_and_state(self, source, openings, persons, visits):
        frees = [max([done for place, comes, begins, done in visits if place == window], default=opening)
                 for window, opening in enumerate(openings)]
        found = after(built(openings, persons), ("free",), ("state",))
        self.assertEqual(found, [counted(frees), [len(persons)] + openings])


if __name__ == "__main__":
    unittest.main()
