"""Point 1: open."""

import unittest

from tests.asking import HIGHEST, after, ask, everything, last

SCENE = [("start", 0, 5), ("come", 0, 10), ("come", 0, 3), ("come", 2, 4), ("come", 7, 0), ("come", 7, 6)]
FIVE = [("start", 0, 5, 300, 300, 300)] + SCENE[1:]


class Open(unittest.TestCase):

    def test_answers_its_number(self):
        self.assertEqual(after(SCENE, ("open", 0), ("open", 0), ("open", 7)), [[2], [3], [4]])
        self.assertEqual(ask(("start", 9), ("open", 3), ("state",)), [[1], [1], [0, 9, 3]])

    def test_all_go_as_if_it_had_been_there_from_the_start(self):
        for minute in (0, 3, 4, 9, 300):
            with self.subTest(minute=minute):
                started = [("start", 0, 5, minute)] + SCENE[1:]
                found = after(SCENE, ("open", minute), *everything(5, 3))
                self.assertEqual(found[1:], after(started, *everything(5, 3)))

    def test_who_goes_there(self):
        found = after(SCENE, ("open", 0), *[("times", i) for i in range(5)], ("of", 2), ("sum",))
        self.assertEqual(found, [[2], [0, 0, 0, 10], [2, 0, 0, 3], [2, 2, 3, 7], [1, 7, 7, 7], [1, 7, 7, 13],
                                 [2, 1, 2], [1]])

    def test_of_like_ones_it_is_the_last(self):
        self.assertEqual(last(("start", 4), ("open", 4), ("come", 0, 1), ("come", 0, 1), ("times", 0)), [0, 0, 4, 5])

    def test_those_who_come_behind_it(self):
        found = ask(("start", 0), ("come", 0, 60), ("open", 20), ("come", 1, 2), ("times", 1), ("leave", 0),
                    ("times", 0), ("state",))
        self.assertEqual(found[4:], [[1, 1, 20, 22], [0], [0, 1, 1, 3], [1, 0, 20]])

    def test_minute_300_and_301(self):
        self.assertEqual(after(SCENE, ("open", 300), ("state",)), [[2], [5, 0, 5, 300]])
        shown = after(SCENE, *everything(5, 2))
        for minute in (301, HIGHEST):
            with self.subTest(minute=minute):
                self.assertEqual(after(SCENE, ("open", minute), *everything(5, 2)), [[-22]] + shown)

    def test_the_fifth_and_the_sixth(self):
        four = [("start", 1, 2, 3, 4), ("come", 0, 8)]
        found = after(four, ("open", 5), ("open", 6), ("state",), ("of", 4), ("of", 5))
        self.assertEqual(found, [[4], [-28], [1, 1, 2, 3, 4, 5], [0], [-2]])

    def test_a_sixth_changes_nothing(self):
        shown = after(FIVE, *everything(5, 5))
        self.assertEqual(after(FIVE, ("open", 0), *everything(5, 5)), [[-28]] + shown)

    def test_not_allowed_is_named_before_full(self):
        self.assertEqual(after(FIVE, ("open", 301), ("open", HIGHEST), ("open", 300)), [[-22], [-22], [-28]])

    def test_a_start_clears_it(self):
        self.assertEqual(after(SCENE, ("open", 0), ("start", 6), ("state",), ("open", 2)), [[2], [1], [0, 6], [1]])

    def test_a_refused_start_leaves_it(self):
        self.assertEqual(after(SCENE, ("open", 8), ("start", 301), ("state",)), [[2], [-22], [5, 0, 5, 8]])

    def test_it_is_a_window_to_every_call(self):
        found = after(SCENE, ("at", 2, 0), ("earlier", 2, 4), ("open", 4), ("at", 2, 4), ("earlier", 2, 4),
                      ("best", 4), ("free",))
        self.assertEqual(found, [[-2], [-2], [2], [1], [6, 1, 13], [2, 6], [3, 10, 9, 13]])


if __name__ == "__main__":
    unittest.main()
