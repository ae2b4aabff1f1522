"""Point 3: more, without, faster, sooner, earlier and best."""

import unittest

from tests.asking import HIGHEST, after, ask, everything, last

# who waits: 0, 5, 6, 3 and 3 minutes, 17 together; the last is done at 16
SCENE = [("start", 0, 5), ("come", 0, 10), ("come", 0, 3), ("come", 2, 4), ("come", 7, 0), ("come", 7, 6)]
NOBODY = [("start", 0, 5)]
SAME = [0, 17, 16]
# nobody waits
SPREAD = [("start", 0), ("come", 10, 5), ("come", 30, 5)]
# 0, 60 and 120 minutes
LATE = [("start", 0, 300)] + [("come", 0, 60)] * 3
CROWDED = [("start", 0, 0)] + [("come", 9, 60)] * 20


class More(unittest.TestCase):

    def test_ordinary(self):
        self.assertEqual(after(SCENE, ("more", 0), ("more", 4), ("more", 5)), [[16, 1, 13], [10, 7, 13], [7, 10, 14]])

    def test_a_saving_of_nothing(self):
        self.assertEqual(after(SCENE, ("more", 10), ("more", 299)), [SAME, SAME])
        self.assertEqual(after(SPREAD, ("more", 0)), [[0, 0, 35]])

    def test_minute_300_and_301(self):
        self.assertEqual(after(SCENE, ("more", 300), ("more", 301), ("more", HIGHEST)), [SAME, [-22], [-22]])
        self.assertEqual(last(("start", 300), ("come", 0, 9), ("come", 0, 9), ("more", 300)), [9, 600, 309])

    def test_where_there_are_five_already(self):
        five = [("start", 0, 0, 0, 0, 0)] + [("come", 0, 10)] * 6
        found = after(five, ("more", 0), ("more", 4), ("more", 10), ("more", 301), ("open", 0))
        self.assertEqual(found, [[10, 0, 10], [6, 4, 14], [0, 10, 20], [-22], [-28]])

    def test_nobody(self):
        self.assertEqual(after(NOBODY, ("more", 0), ("more", 300), ("more", 301)), [[0, 0, 0], [0, 0, 0], [-22]])

    def test_twenty_in_one_minute(self):
        # two by two each pair waits 60 minutes more; three by three each three do
        self.assertEqual(after(CROWDED, ("sum",), ("more", 0)), [[5400], [1980, 3420, 429]])

    def test_as_open_would_have_it(self):
        for minute in (0, 3, 9, 300):
            with self.subTest(minute=minute):
                more, number, waits, over = after(SCENE, ("more", minute), ("open", minute), ("sum",), ("over",))
                self.assertEqual(more, [17 - waits[0], waits[0], over[0]])


class Without(unittest.TestCase):

    def test_first_last_and_between(self):
        found = after(SCENE, *[("without", i) for i in range(5)])
        self.assertEqual(found, [[16, 1, 13], [10, 7, 15], [10, 7, 14], [3, 14, 16], [3, 14, 12]])

    def test_no_such_person(self):
        self.assertEqual(after(SCENE, ("without", 5), ("without", HIGHEST)), [[-2], [-2]])
        self.assertEqual(after(NOBODY, ("without", 0)), [[-2]])

    def test_a_saving_of_nothing(self):
        self.assertEqual(after(SPREAD, ("without", 0), ("without", 1)), [[0, 0, 35], [0, 0, 15]])

    def test_one_alone(self):
        self.assertEqual(last(("start", 7), ("come", 4, 9), ("without", 0)), [3, 0, 0])

    def test_twenty_in_one_minute(self):
        self.assertEqual(after(CROWDED, ("without", 0), ("without", 19)), [[540, 4860, 609], [540, 4860, 609]])

    def test_as_leave_would_have_it(self):
        for who in range(5):
            with self.subTest(who=who):
                without, wait, waits, over = after(SCENE, ("without", who), ("leave", who), ("sum",), ("over",))
                self.assertEqual(without, [17 - waits[0], waits[0], over[0]])


class Faster(unittest.TestCase):

    def test_ordinary(self):
        self.assertEqual(after(SCENE, ("faster", 0, 4), ("faster", 1, 1), ("faster", 4, 2)),
                         [[6, 11, 14], [1, 16, 16], [0, 17, 14]])

    def test_first_and_last_served_no_minutes(self):
        for less in (10, 11, HIGHEST):
            with self.subTest(less=less):
                self.assertEqual(after(SCENE, ("faster", 0, less), ("faster", 4, less)), [[16, 1, 13], [0, 17, 12]])

    def test_one_of_no_minutes_is_served_no_faster(self):
        self.assertEqual(after(SCENE, ("faster", 3, 1), ("faster", 3, HIGHEST)), [SAME, SAME])

    def test_by_no_minutes(self):
        self.assertEqual(after(SCENE, *[("faster", i, 0) for i in range(5)]), [SAME] * 5)

    def test_no_such_person(self):
        self.assertEqual(after(SCENE, ("faster", 5, 0), ("faster", HIGHEST, HIGHEST)), [[-2], [-2]])
        self.assertEqual(after(NOBODY, ("faster", 0, 1)), [[-2]])

    def test_a_saving_of_nothing(self):
        self.assertEqual(after(SPREAD, ("faster", 0, 3), ("faster", 1, 3)), [[0, 0, 35], [0, 0, 32]])

    def test_twenty_in_one_minute(self):
        self.assertEqual(after(CROWDED, ("faster", 19, 20), ("faster", 18, 20)), [[0, 5400, 609], [0, 5400, 609]])
        self.assertEqual(after(CROWDED, ("faster", 0, 60)), [[540, 4860, 609]])


class Sooner(unittest.TestCase):

    def test_ordinary(self):
        self.assertEqual(after(SPREAD, ("sooner", 0, 4), ("sooner", 1, 4)), [[6, 0, 35], [26, 0, 31]])

    def test_where_all_would_wait_longer(self):
        self.assertEqual(after(SCENE, ("sooner", 2, 1), ("sooner", 3, 3)), [[1, 18, 16], [4, 20, 16]])
        self.assertEqual(after(SPREAD, ("sooner", 1, 17)), [[13, 2, 20]])

    def test_where_all_would_wait_less(self):
        calls = [("start", 0), ("come", 10, 5), ("come", 12, 5), ("come", 13, 5)]
        self.assertEqual(after(calls, ("sum",), ("sooner", 0, 2), ("sooner", 0, 5)), [[10], [8, 6, 23], [5, 4, 22]])

    def test_not_before_the_one_before(self):
        self.assertEqual(after(SCENE, ("sooner", 3, 5), ("sooner", 3, 6), ("sooner", 3, 7), ("sooner", 3, HIGHEST)),
                         [[2, 22, 16]] * 4)
        self.assertEqual(after(SPREAD, ("sooner", 1, 19), ("sooner", 1, 20), ("sooner", 1, 21)),
                         [[11, 4, 20], [10, 5, 20], [10, 5, 20]])

    def test_who_comes_at_once_with_the_one_before(self):
        self.assertEqual(after(SCENE, ("sooner", 1, 1), ("sooner", 4, 1), ("sooner", 4, HIGHEST)),
                         [[0, 17, 16], [7, 17, 16], [7, 17, 16]])

    def test_the_first_not_before_minute_0(self):
        self.assertEqual(after(SPREAD, ("sooner", 0, 9), ("sooner", 0, 10), ("sooner", 0, 11), ("sooner", 0, HIGHEST)),
                         [[1, 0, 35], [0, 0, 35], [0, 0, 35], [0, 0, 35]])
        self.assertEqual(after(SCENE, ("sooner", 0, 1)), [[0, 17, 16]])

    def test_the_last(self):
        self.assertEqual(after(SPREAD, ("sooner", 1, HIGHEST)), [[10, 5, 20]])
        self.assertEqual(after(LATE, ("sooner", 2, HIGHEST)), [[0, 180, 180]])

    def test_by_no_minutes(self):
        self.assertEqual(after(SCENE, *[("sooner", i, 0) for i in range(5)]),
                         [[0, 17, 16], [0, 17, 16], [2, 17, 16], [7, 17, 16], [7, 17, 16]])

    def test_no_such_person(self):
        self.assertEqual(after(SCENE, ("sooner", 5, 0), ("sooner", HIGHEST, HIGHEST)), [[-2], [-2]])
        self.assertEqual(after(NOBODY, ("sooner", 0, 1)), [[-2]])

    def test_twenty_in_one_minute(self):
        self.assertEqual(after(CROWDED, ("sooner", 0, 5), ("sooner", 1, 5), ("sooner", 19, 5)),
                         [[4, 5355, 609], [9, 5400, 609], [9, 5400, 609]])


class Earlier(unittest.TestCase):

    def test_ordinary(self):
        self.assertEqual(after(SCENE, ("earlier", 1, 2), ("earlier", 1, 4)), [[4, 13, 16], [12, 5, 14]])

    def test_from_0_at_the_soonest(self):
        self.assertEqual(after(SCENE, ("earlier", 1, 5), ("earlier", 1, 6), ("earlier", 1, HIGHEST)),
                         [[16, 1, 13]] * 3)
        self.assertEqual(after(SCENE, ("earlier", 0, 1), ("earlier", 0, HIGHEST)), [SAME, SAME])

    def test_by_no_minutes(self):
        self.assertEqual(after(SCENE, ("earlier", 0, 0), ("earlier", 1, 0)), [SAME, SAME])

    def test_no_such_window(self):
        self.assertEqual(after(SCENE, ("earlier", 2, 0), ("earlier", HIGHEST, HIGHEST)), [[-2], [-2]])
        self.assertEqual(after(NOBODY, ("earlier", 2, 0)), [[-2]])

    def test_a_window_that_opens_late(self):
        self.assertEqual(after(LATE, ("earlier", 1, 180), ("earlier", 1, 181), ("earlier", 1, 200)),
                         [[0, 180, 180], [1, 179, 179], [20, 160, 160]])

    def test_nobody(self):
        self.assertEqual(after(NOBODY, ("earlier", 0, 9), ("earlier", 1, 9)), [[0, 0, 0], [0, 0, 0]])

    def test_twenty_in_one_minute(self):
        calls = [("start", 10, 10)] + [("come", 9, 60)] * 20
        self.assertEqual(after(calls, ("earlier", 0, 1), ("earlier", 1, 1)), [[10, 5410, 610], [10, 5410, 610]])


class Best(unittest.TestCase):

    def test_ordinary(self):
        self.assertEqual(after(SCENE, ("best", 2), ("best", 4), ("best", HIGHEST)), [[1, 4], [1, 12], [1, 16]])

    def test_the_first_can_be_best(self):
        self.assertEqual(last(("start", 9, 0, 300), *[("come", 0, 20)] * 4, ("best", 3)), [0, 6])

    def test_of_windows_by_which_as_much_would_be_saved_the_first(self):
        self.assertEqual(last(("start", 7, 7), ("come", 0, 1), ("come", 0, 1), ("best", 3)), [0, 5])
        self.assertEqual(last(("start", 0, 8, 8), *[("come", 0, 60)] * 3, ("best", 3)), [1, 3])

    def test_nothing_to_be_saved_by_any(self):
        self.assertEqual(after(SCENE, ("best", 0)), [[0, 0]])
        self.assertEqual(after(SPREAD, ("best", 0), ("best", 9), ("best", HIGHEST)), [[0, 0]] * 3)
        self.assertEqual(after(CROWDED, ("best", HIGHEST)), [[0, 0]])

    def test_nobody(self):
        self.assertEqual(after(NOBODY, ("best", 0), ("best", 5), ("best", HIGHEST)), [[0, 0]] * 3)

    def test_a_window_that_opens_late(self):
        self.assertEqual(after(LATE, ("best", 180), ("best", 181), ("best", HIGHEST)), [[0, 0], [1, 1], [1, 120]])

    def test_as_earlier_would_have_it(self):
        calls = [("start", 40, 30, 20, 10, 50)] + [("come", 5, 25)] * 20
        for less in (0, 1, 7, 20, 45, HIGHEST):
            with self.subTest(less=less):
                found = after(calls, ("best", less), *[("earlier", w, less) for w in range(5)])
                savings = [answer[0] for answer in found[1:]]
                self.assertEqual(found[0], [savings.index(max(savings)), max(savings)])


class ChangeNothing(unittest.TestCase):

    QUESTIONS = [("more", 0), ("more", 301), ("without", 0), ("without", 4), ("without", 5), ("faster", 0, 4),
                 ("faster", 4, HIGHEST), ("faster", 5, 1), ("sooner", 3, 2), ("sooner", 4, 0), ("sooner", 5, 1),
                 ("earlier", 1, 3), ("earlier", 0, HIGHEST), ("earlier", 2, 1), ("best", 4), ("best", HIGHEST)]

    def test_every_other_call_answers_as_if_they_had_not_been_asked(self):
        others = everything(5, 2) + [("present", 7), ("line", 7), ("at", 0, 10), ("at", 1, 9), ("fewest", 0),
                                     ("fewest", 5), ("come", 6, 1), ("come", 8, 5), ("times", 5), ("leave", 1),
                                     ("state",), ("open", 3), ("free",), ("sum",), ("start", 4), ("state",)]
        plain = after(SCENE, *others)
        for question in self.QUESTIONS:
            with self.subTest(question=question):
                self.assertEqual(after(SCENE, question, *others)[1:], plain)
        count = len(self.QUESTIONS)
        self.assertEqual(after(SCENE, *self.QUESTIONS, *others)[count:], plain)

    def test_one_between_any_two_other_calls(self):
        calls = SCENE + [("come", 8, 5), ("leave", 1), ("open", 3), ("free",), ("state",), ("sum",)]
        plain = ask(*calls)
        for question in self.QUESTIONS:
            with self.subTest(question=question):
                mixed = [call for pair in zip(calls, [question] * len(calls)) for call in pair]
                self.assertEqual(ask(*mixed)[::2], plain)

    def test_asked_twice_they_answer_the_same(self):
        count = len(self.QUESTIONS)
        found = after(SCENE, *self.QUESTIONS, *self.QUESTIONS, *reversed(self.QUESTIONS))
        self.assertEqual(found[:count], found[count:2 * count])
        self.assertEqual(found[:count], found[:2 * count - 1:-1])


if __name__ == "__main__":
    unittest.main()
