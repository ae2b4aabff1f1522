"""Point 4: fewest, crowd and state."""

import unittest

from tests.asking import HIGHEST, after, ask, everything, last

SCENE = [("start", 0, 5), ("come", 0, 10), ("come", 0, 3), ("come", 2, 4), ("come", 7, 0), ("come", 7, 6)]
NOBODY = [("start", 0, 5)]
TWENTY = [("start", 300)] + [("come", 9, 60)] * 20


def both(*persons):
    """How few windows are enough so that nobody waits, and how many are served at once."""
    calls = [("start", 4, 2)] + [("come", comes, minutes) for comes, minutes in persons]
    fewest, crowd = after(calls, ("fewest", 0), ("crowd",))
    return fewest + crowd


class Fewest(unittest.TestCase):

    def test_ordinary(self):
        found = after(SCENE, *[("fewest", longest) for longest in (0, 1, 2, 10, 11, 12)])
        self.assertEqual(found, [[3], [2], [2], [2], [1], [1]])

    def test_any_wait_is_short_enough(self):
        self.assertEqual(after(SCENE, ("fewest", HIGHEST)), [[1]])
        self.assertEqual(after(TWENTY, ("fewest", HIGHEST)), [[1]])

    def test_nobody(self):
        self.assertEqual(after(NOBODY, ("fewest", 0), ("fewest", HIGHEST)), [[-33], [-33]])
        self.assertEqual(last(("start", 0), ("come", 0, 1), ("leave", 0), ("fewest", 0)), [-33])

    def test_twenty_in_one_minute(self):
        found = after(TWENTY, *[("fewest", longest) for longest in (0, 59, 60, 119, 120, 540, 1139, 1140)])
        self.assertEqual(found, [[20], [20], [10], [10], [7], [2], [2], [1]])

    def test_the_windows_that_are_there_say_nothing(self):
        persons = SCENE[1:]
        for openings in ((300,), (0, 0, 0, 0, 0), (0, 300, 4)):
            with self.subTest(openings=openings):
                found = after([("start", *openings), *persons], ("fewest", 0), ("fewest", 1), ("fewest", 11))
                self.assertEqual(found, [[3], [2], [1]])

    def test_one_alone(self):
        self.assertEqual(last(("start", 300), ("come", 0, 60), ("fewest", 0)), [1])


class Crowd(unittest.TestCase):

    def test_ordinary(self):
        self.assertEqual(after(SCENE, ("crowd",)), [[3]])

    def test_nobody(self):
        self.assertEqual(after(NOBODY, ("crowd",)), [[0]])

    def test_twenty_in_one_minute(self):
        self.assertEqual(after(TWENTY, ("crowd",)), [[20]])

    def test_up_to_its_minutes_later_but_not_then(self):
        self.assertEqual(last(("start", 0), ("come", 2, 5), ("come", 6, 5), ("crowd",)), [2])
        self.assertEqual(last(("start", 0), ("come", 2, 5), ("come", 7, 5), ("crowd",)), [1])

    def test_most_are_there_in_the_middle(self):
        persons = [(0, 2), (5, 20), (9, 20), (14, 20), (29, 20), (40, 1)]
        self.assertEqual(both(*persons), [3, 3])

    def test_the_windows_that_are_there_say_nothing(self):
        for openings in ((300,), (0, 0, 0, 0, 0), (0, 300, 4)):
            with self.subTest(openings=openings):
                self.assertEqual(last(("start", *openings), *SCENE[1:], ("crowd",)), [3])


class FewestAndCrowd(unittest.TestCase):

    def test_several_who_come_at_once(self):
        self.assertEqual(both((3, 4), (3, 1), (3, 9)), [3, 3])
        self.assertEqual(both((3, 4), (3, 1), (4, 9), (4, 9)), [3, 3])
        self.assertEqual(both((3, 1), (3, 1), (4, 1), (4, 1)), [2, 2])

    def test_of_no_minutes_alone(self):
        self.assertEqual(both((5, 0)), [1, 0])
        self.assertEqual(both(*[(5, 0)] * 20), [1, 0])

    def test_of_no_minutes_where_it_need_not_wait(self):
        self.assertEqual(both((5, 0), (5, 10)), [1, 1])
        self.assertEqual(both((0, 10), (10, 0), (10, 1)), [1, 1])

    def test_of_no_minutes_where_it_would_have_to_wait(self):
        # it is served at once with nobody, yet one window isn't enough for it
        self.assertEqual(both((0, 10), (5, 0)), [2, 1])
        self.assertEqual(both((5, 10), (5, 0)), [2, 1])


class State(unittest.TestCase):

    def test_ordinary(self):
        self.assertEqual(after(SCENE, ("state",)), [[5, 0, 5]])

    def test_nobody(self):
        self.assertEqual(after(NOBODY, ("state",)), [[0, 0, 5]])
        self.assertEqual(last(("start", 300, 0, 7, 7, 1), ("state",)), [0, 300, 0, 7, 7, 1])

    def test_twenty(self):
        self.assertEqual(after(TWENTY, ("state",)), [[20, 300]])

    def test_behind_changes(self):
        found = ask(("start", 8), ("state",), ("come", 1, 1), ("state",), ("come", 1, 61), ("state",), ("open", 2),
                    ("state",), ("leave", 0), ("state",), ("start", 3, 4), ("state",), ("start",), ("state",))
        self.assertEqual(found[1::2], [[0, 8], [1, 8], [1, 8], [1, 8, 2], [0, 8, 2], [0, 3, 4], [0, 3, 4]])


class ChangeNothing(unittest.TestCase):

    def test_questions_leave_all_as_it_was(self):
        for before, persons, windows in ((SCENE, 5, 2), (NOBODY, 0, 2), (TWENTY, 20, 1)):
            shown = after(before, *everything(persons, windows))
            for question in (("fewest", 0), ("fewest", 5), ("fewest", HIGHEST), ("crowd",), ("state",), ("free",)):
                with self.subTest(question=question, before=before):
                    self.assertEqual(after(before, question, *everything(persons, windows))[1:], shown)
                    self.assertEqual(len(set(map(tuple, after(before, question, question)))), 1)


if __name__ == "__main__":
    unittest.main()
