"""Point 1: start, come and leave."""

import unittest

from tests.asking import HIGHEST, NAMES, after, ask, everything, last

SCENE = [("start", 0, 5), ("come", 0, 10), ("come", 0, 3), ("come", 2, 4), ("come", 7, 0), ("come", 7, 6)]
FULL = [("start", 0)] + [("come", 10, 1)] * 20


class Start(unittest.TestCase):

    def test_answers_how_many_windows(self):
        for count in range(1, 6):
            with self.subTest(count=count):
                self.assertEqual(last(("start", *[7] * count)), [count])

    def test_none_and_six_and_more_are_refused(self):
        for count in (0, 6, 7, 59, 60):
            with self.subTest(count=count):
                self.assertEqual(last(("start", *[0] * count)), [-22])

    def test_sixty_highest_numbers_and_what_stands_behind_them(self):
        self.assertEqual(ask(("start", *[HIGHEST] * 60), ("start", 0), ("sum",)), [[-22], [1], [0]])

    def test_opening_at_300_and_301(self):
        self.assertEqual(last(("start", 300)), [1])
        self.assertEqual(last(("start", 300, 300, 300, 300, 300)), [5])
        self.assertEqual(last(("start", 301)), [-22])
        self.assertEqual(last(("start", HIGHEST)), [-22])
        for place in range(5):
            openings = [0] * 5
            openings[place] = 301
            with self.subTest(place=place):
                self.assertEqual(last(("start", *openings)), [-22])

    def test_opening_is_when_a_window_is_free_at_first(self):
        self.assertEqual(after([("start", 300), ("come", 0, 60)], ("times", 0)), [[0, 0, 300, 360]])

    def test_once_more_clears_persons_and_windows(self):
        found = after(SCENE, ("start", 4), ("sum",), ("longest",), ("over",), ("of", 0), ("of", 1), ("wait", 0),
                      ("come", 0, 1), ("times", 0))
        self.assertEqual(found, [[1], [0], [-6], [0], [0], [-2], [-2], [0], [0, 0, 4, 5]])

    def test_refused_changes_nothing(self):
        shown = after(SCENE, *everything(5, 2))
        for wrong in (("start",), ("start", 1, 301), ("start", 0, 0, 0, 0, 0, 0)):
            with self.subTest(wrong=wrong):
                found = after(SCENE, wrong, *everything(5, 2))
                self.assertEqual(found, [[-22]] + shown)


class BeforeAStart(unittest.TestCase):

    NUMBERS = {"come": 2, "leave": 1, "times": 1, "wait": 1, "sum": 0, "longest": 0, "over": 0, "present": 1,
               "line": 1, "at": 2, "of": 1, "more": 1, "without": 1, "faster": 2, "sooner": 2, "earlier": 2,
               "best": 1, "fewest": 1, "crowd": 0, "open": 1, "free": 0, "state": 0}

    def test_every_other_call_is_refused(self):
        self.assertEqual(len(self.NUMBERS) + 1, len(NAMES))
        for name, count in self.NUMBERS.items():
            for value in (0, HIGHEST):
                with self.subTest(name=name, value=value):
                    call = (name, *[value] * count)
                    self.assertEqual(ask(call, call, ("start", 0)), [[-11], [-11], [1]])

    def test_a_refused_start_is_none(self):
        self.assertEqual(ask(("start",), ("come", 0, 0), ("start", 301), ("sum",), ("start", 0), ("sum",)),
                         [[-22], [-11], [-22], [-11], [1], [0]])

    def test_a_refused_call_leaves_nobody(self):
        self.assertEqual(ask(("come", 9, 9), ("start", 0), ("longest",), ("come", 0, 1)), [[-11], [1], [-6], [0]])


class Come(unittest.TestCase):

    def test_answers_its_number(self):
        self.assertEqual(ask(*SCENE), [[2], [0], [1], [2], [3], [4]])

    def test_minute_300_and_301(self):
        found = ask(("start", 0), ("come", 300, 1), ("come", 301, 1), ("come", HIGHEST, 1), ("times", 0), ("wait", 1))
        self.assertEqual(found, [[1], [0], [-22], [-22], [0, 300, 300, 301], [-2]])

    def test_minutes_60_and_61(self):
        found = ask(("start", 0), ("come", 0, 60), ("come", 0, 61), ("come", 0, HIGHEST), ("times", 0), ("wait", 1))
        self.assertEqual(found, [[1], [0], [-22], [-22], [0, 0, 0, 60], [-2]])

    def test_never_before_the_one_before(self):
        found = ask(("start", 0), ("come", 20, 1), ("come", 19, 1), ("come", 20, 1), ("come", 21, 1), ("come", 20, 1))
        self.assertEqual(found, [[1], [0], [-22], [1], [2], [-22]])

    def test_a_refused_one_holds_back_nobody(self):
        found = ask(("start", 0), ("come", 20, 61), ("come", 5, 1), ("times", 0))
        self.assertEqual(found, [[1], [-22], [0], [0, 5, 5, 6]])

    def test_the_20th_and_the_21st(self):
        found = ask(*FULL, ("come", 10, 1), ("wait", 19), ("wait", 20))
        self.assertEqual(found[1:21], [[number] for number in range(20)])
        self.assertEqual(found[21:], [[-28], [19], [-2]])

    def test_not_allowed_is_named_before_full(self):
        found = after(FULL, ("come", 301, 1), ("come", 9, 1), ("come", 10, 61), ("come", 300, 60))
        self.assertEqual(found, [[-22], [-22], [-22], [-28]])

    def test_refused_changes_nothing(self):
        shown = after(SCENE, *everything(5, 2))
        for wrong in (("come", 301, 0), ("come", 6, 0), ("come", 7, 61)):
            with self.subTest(wrong=wrong):
                self.assertEqual(after(SCENE, wrong, *everything(5, 2)), [[-22]] + shown)
        shown = after(FULL, *everything(20, 1))
        self.assertEqual(after(FULL, ("come", 10, 1), *everything(20, 1)), [[-28]] + shown)


class Leave(unittest.TestCase):

    def test_answers_how_long_it_would_have_waited(self):
        for person, waits in enumerate((0, 5, 6, 3, 3)):
            with self.subTest(person=person):
                self.assertEqual(after(SCENE, ("leave", person)), [[waits]])

    def test_those_behind_have_one_number_less(self):
        found = after(SCENE, ("leave", 0), *[("times", i) for i in range(5)])
        self.assertEqual(found, [[0], [0, 0, 0, 3], [0, 2, 3, 7], [1, 7, 7, 7], [0, 7, 7, 13], [-2]])

    def test_as_if_it_had_not_come(self):
        for person in range(5):
            without = SCENE[:person + 1] + SCENE[person + 2:]
            with self.subTest(person=person):
                found = after(SCENE, ("leave", person), *everything(5, 2))
                self.assertEqual(found[1:], after(without, *everything(5, 2)))

    def test_no_such_person(self):
        shown = after(SCENE, *everything(5, 2))
        for number in (5, 6, HIGHEST):
            with self.subTest(number=number):
                self.assertEqual(after(SCENE, ("leave", number), *everything(5, 2)), [[-2]] + shown)
        self.assertEqual(last(("start", 0), ("leave", 0)), [-2])

    def test_it_holds_back_nobody_any_more(self):
        found = ask(("start", 0), ("come", 10, 1), ("come", 300, 1), ("come", 12, 1), ("leave", 1), ("come", 9, 1),
                    ("come", 12, 1), ("times", 1))
        self.assertEqual(found[3:], [[-22], [0], [-22], [1], [0, 12, 12, 13]])

    def test_all_leave(self):
        found = ask(("start", 0), ("come", 10, 1), ("leave", 0), ("leave", 0), ("longest",), ("come", 0, 2),
                    ("times", 0))
        self.assertEqual(found, [[1], [0], [0], [-2], [-6], [0], [0, 0, 0, 2]])

    def test_room_for_one_more(self):
        self.assertEqual(after(FULL, ("leave", 3), ("come", 10, 5), ("come", 10, 5)), [[3], [19], [-28]])


if __name__ == "__main__":
    unittest.main()
