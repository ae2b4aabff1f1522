"""Point 2: times, wait, sum, longest, over, present, line, at, of and free."""

import unittest

from tests.asking import HIGHEST, after, ask, last

SCENE = [("start", 0, 5), ("come", 0, 10), ("come", 0, 3), ("come", 2, 4), ("come", 7, 0), ("come", 7, 6)]
NOBODY = [("start", 0, 5)]


def all_times(before, count):
    return after(before, *[("times", i) for i in range(count)])


class Times(unittest.TestCase):

    def test_ordinary(self):
        self.assertEqual(all_times(SCENE, 5), [[0, 0, 0, 10], [1, 0, 5, 8], [1, 2, 8, 12], [0, 7, 10, 10],
                                               [0, 7, 10, 16]])

    def test_no_such_person(self):
        self.assertEqual(after(SCENE, ("times", 5), ("times", HIGHEST)), [[-2], [-2]])
        self.assertEqual(after(NOBODY, ("times", 0)), [[-2]])

    def test_of_windows_free_in_one_minute_the_first(self):
        calls = [("start", 3, 3, 3), ("come", 0, 4), ("come", 0, 2), ("come", 0, 2), ("come", 1, 5), ("come", 1, 1)]
        self.assertEqual(all_times(calls, 5), [[0, 0, 3, 7], [1, 0, 3, 5], [2, 0, 3, 5], [1, 1, 5, 10],
                                               [2, 1, 5, 6]])

    def test_free_first_even_if_others_are_free_too(self):
        calls = [("start", 9, 2, 4), ("come", 50, 1), ("come", 60, 1), ("come", 70, 1), ("come", 80, 1)]
        self.assertEqual(all_times(calls, 4), [[1, 50, 50, 51], [2, 60, 60, 61], [0, 70, 70, 71], [1, 80, 80, 81]])

    def test_a_window_that_opens_late(self):
        calls = [("start", 300, 0), ("come", 0, 60), ("come", 0, 60), ("come", 0, 60), ("come", 0, 60),
                 ("come", 0, 60), ("come", 0, 60)]
        self.assertEqual(all_times(calls, 6), [[1, 0, 0, 60], [1, 0, 60, 120], [1, 0, 120, 180], [1, 0, 180, 240],
                                               [1, 0, 240, 300], [0, 0, 300, 360]])

    def test_of_no_minutes(self):
        calls = [("start", 0, 0), ("come", 4, 0), ("come", 4, 0), ("come", 4, 2), ("come", 4, 0)]
        self.assertEqual(all_times(calls, 4), [[0, 4, 4, 4], [1, 4, 4, 4], [0, 4, 4, 6], [1, 4, 4, 4]])

    def test_several_at_once_at_one_window(self):
        calls = [("start", 0), ("come", 6, 2), ("come", 6, 3), ("come", 6, 4)]
        self.assertEqual(all_times(calls, 3), [[0, 6, 6, 8], [0, 6, 8, 11], [0, 6, 11, 15]])

    def test_five_windows(self):
        calls = [("start", 5, 4, 3, 2, 1)] + [("come", 0, 9)] * 6
        self.assertEqual(all_times(calls, 6), [[4, 0, 1, 10], [3, 0, 2, 11], [2, 0, 3, 12], [1, 0, 4, 13],
                                               [0, 0, 5, 14], [4, 0, 10, 19]])


class Waiting(unittest.TestCase):

    def test_wait(self):
        self.assertEqual(after(SCENE, *[("wait", i) for i in range(5)]), [[0], [5], [6], [3], [3]])

    def test_wait_no_such_person(self):
        self.assertEqual(after(SCENE, ("wait", 5), ("wait", HIGHEST)), [[-2], [-2]])
        self.assertEqual(after(NOBODY, ("wait", 0)), [[-2]])

    def test_sum(self):
        self.assertEqual(after(SCENE, ("sum",)), [[17]])
        self.assertEqual(after(NOBODY, ("sum",)), [[0]])

    def test_longest(self):
        self.assertEqual(after(SCENE, ("longest",)), [[6, 2]])

    def test_longest_nobody(self):
        self.assertEqual(after(NOBODY, ("longest",)), [[-6]])

    def test_longest_is_the_first_of_like_ones(self):
        self.assertEqual(last(("start", 8), ("come", 1, 0), ("come", 2, 1), ("come", 2, 1), ("longest",)), [7, 0])
        self.assertEqual(last(("start", 0), ("come", 0, 3), ("come", 0, 1), ("come", 1, 1), ("longest",)), [3, 1])
        self.assertEqual(last(("start", 0), ("come", 5, 1), ("come", 9, 1), ("longest",)), [0, 0])

    def test_the_most_that_can_be_waited(self):
        calls = [("start", 300)] + [("come", 0, 60)] * 20
        found = after(calls, ("sum",), ("longest",), ("over",), ("present", 1499), ("present", 1500))
        self.assertEqual(found, [[20 * 300 + 60 * 190], [1440, 19], [1500], [1], [0]])


class Over(unittest.TestCase):

    def test_ordinary(self):
        self.assertEqual(after(SCENE, ("over",)), [[16]])

    def test_nobody(self):
        self.assertEqual(last(("start", 9), ("over",)), [0])

    def test_the_last_to_be_done_came_first(self):
        self.assertEqual(last(("start", 0, 0), ("come", 0, 60), ("come", 1, 1), ("over",)), [60])

    def test_one_of_no_minutes_is_done_when_it_begins(self):
        self.assertEqual(last(("start", 0), ("come", 30, 0), ("over",)), [30])
        self.assertEqual(last(("start", 0), ("come", 0, 0), ("over",)), [0])


class Present(unittest.TestCase):

    def test_ordinary(self):
        counts = {0: 2, 1: 2, 2: 3, 6: 3, 7: 5, 8: 4, 9: 4, 10: 2, 11: 2, 12: 1, 15: 1, 16: 0}
        for minute, count in counts.items():
            with self.subTest(minute=minute):
                self.assertEqual(after(SCENE, ("present", minute)), [[count]])

    def test_of_no_minutes(self):
        calls = [("start", 5), ("come", 3, 0), ("come", 9, 0)]
        found = after(calls, *[("present", minute) for minute in (2, 3, 4, 5, 8, 9, 10)])
        self.assertEqual(found, [[0], [1], [1], [0], [0], [0], [0]])

    def test_minute_2000_and_2001(self):
        self.assertEqual(after(SCENE, ("present", 2000), ("present", 2001), ("present", HIGHEST)),
                         [[0], [-22], [-22]])
        self.assertEqual(after(NOBODY, ("present", 0), ("present", 2000), ("present", 2001)), [[0], [0], [-22]])


class Line(unittest.TestCase):

    def test_ordinary(self):
        lines = {0: [1], 1: [1], 2: [1, 2], 4: [1, 2], 5: [2], 6: [2], 7: [2, 3, 4], 8: [3, 4], 9: [3, 4], 10: []}
        for minute, persons in lines.items():
            with self.subTest(minute=minute):
                self.assertEqual(after(SCENE, ("line", minute)), [[len(persons)] + persons])

    def test_all_twenty_in_the_line(self):
        calls = [("start", 300)] + [("come", 0, 1)] * 20
        found = after(calls, ("line", 0), ("line", 299), ("line", 300), ("line", 319))
        self.assertEqual(found, [[20, *range(20)], [20, *range(20)], [19, *range(1, 20)], [0]])

    def test_minute_2000_and_2001(self):
        self.assertEqual(after(SCENE, ("line", 2000), ("line", 2001), ("line", HIGHEST)), [[0], [-22], [-22]])
        self.assertEqual(after(NOBODY, ("line", 0), ("line", 2000), ("line", 2001)), [[0], [0], [-22]])


class At(unittest.TestCase):

    def test_ordinary(self):
        whos = {(0, 0): 0, (0, 9): 0, (0, 10): 4, (0, 15): 4, (0, 16): -33, (1, 0): -33, (1, 4): -33, (1, 5): 1,
                (1, 7): 1, (1, 8): 2, (1, 11): 2, (1, 12): -33}
        for place, who in whos.items():
            with self.subTest(place=place):
                self.assertEqual(after(SCENE, ("at", *place)), [[who]])

    def test_no_such_window(self):
        self.assertEqual(after(SCENE, ("at", 2, 0), ("at", HIGHEST, 0), ("at", 2, HIGHEST)), [[-2], [-2], [-2]])

    def test_no_minute_is_too_late_to_ask(self):
        self.assertEqual(after(SCENE, ("at", 0, 2001), ("at", 1, HIGHEST)), [[-33], [-33]])

    def test_nobody(self):
        self.assertEqual(after(NOBODY, ("at", 0, 0), ("at", 1, 5), ("at", 2, 5)), [[-33], [-33], [-2]])

    def test_of_no_minutes_is_at_its_window_in_none(self):
        self.assertEqual(last(("start", 0), ("come", 3, 0), ("at", 0, 3)), [-33])


class Of(unittest.TestCase):

    def test_ordinary(self):
        self.assertEqual(after(SCENE, ("of", 0), ("of", 1)), [[3, 0, 3, 4], [2, 1, 2]])

    def test_no_such_window(self):
        self.assertEqual(after(SCENE, ("of", 2), ("of", HIGHEST)), [[-2], [-2]])

    def test_nobody(self):
        self.assertEqual(after(NOBODY, ("of", 0), ("of", 1), ("of", 2)), [[0], [0], [-2]])

    def test_five_windows(self):
        found = ask(("start", 0, 0, 0, 0, 0), ("of", 4), ("of", 5), *[("come", 0, 5)] * 5, ("of", 4))
        self.assertEqual(found[1:3], [[0], [-2]])
        self.assertEqual(found[-1], [1, 4])


class Free(unittest.TestCase):

    def test_ordinary(self):
        self.assertEqual(after(SCENE, ("free",)), [[2, 16, 12]])

    def test_nobody(self):
        self.assertEqual(after(NOBODY, ("free",)), [[2, 0, 5]])
        self.assertEqual(last(("start", 300, 0, 7, 7, 1), ("free",)), [5, 300, 0, 7, 7, 1])

    def test_a_window_to_which_nobody_goes(self):
        self.assertEqual(last(("start", 300, 0), ("come", 4, 9), ("free",)), [2, 300, 13])

    def test_a_window_that_opens_late(self):
        self.assertEqual(last(("start", 300), ("come", 4, 9), ("free",)), [1, 309])

    def test_of_no_minutes(self):
        self.assertEqual(last(("start", 0, 3), ("come", 7, 0), ("free",)), [2, 7, 3])
        self.assertEqual(last(("start", 0, 0), ("come", 0, 0), ("come", 0, 2), ("free",)), [2, 2, 0])

    def test_one_who_leaves_and_a_window_more(self):
        found = after(SCENE, ("leave", 4), ("free",), ("open", 40), ("free",), ("leave", 0), ("free",))
        self.assertEqual(found[1::2], [[2, 10, 12], [3, 10, 12, 40], [3, 7, 7, 40]])

    def test_twenty_in_one_minute(self):
        calls = [("start", 0, 0, 0)] + [("come", 9, 60)] * 20
        self.assertEqual(after(calls, ("free",)), [[3, 429, 429, 369]])


class ChangeNothing(unittest.TestCase):

    def test_questions_leave_all_as_it_was(self):
        questions = [("times", 0), ("times", 9), ("wait", 1), ("wait", 9), ("sum",), ("longest",), ("over",),
                     ("present", 3), ("present", 2001), ("line", 3), ("line", 2001), ("at", 0, 0), ("at", 0, 99),
                     ("at", 9, 0), ("of", 0), ("of", 9), ("free",)]
        found = after(SCENE, *questions, *questions, *reversed(questions))
        count = len(questions)
        self.assertEqual(found[:count], found[count:2 * count])
        self.assertEqual(found[:count], found[:2 * count - 1:-1])


if __name__ == "__main__":
    unittest.main()
