"""How calls are handed in, and how answers are given back."""

import unittest

from severalwindows.office import answers
from tests.asking import HIGHEST, NAMES, ask, flat


class Untouchable(list):
    """A list that can be read, but fails at every change."""

    def refuse(self, *given, **named):
        raise AssertionError("what is handed in is changed")

    append = extend = insert = pop = remove = clear = sort = reverse = refuse
    __setitem__ = __delitem__ = __iadd__ = __imul__ = refuse


EVERY = [("come", 1, 1), ("start",), ("start", 4, 0), ("come", 2, 9), ("come", 2, 9), ("come", 3, 9), ("times", 2),
         ("wait", 2), ("sum",), ("longest",), ("over",), ("present", 3), ("line", 3), ("at", 0, 5), ("of", 0),
         ("more", 1), ("more", 301), ("without", 1), ("without", 3), ("faster", 0, 4), ("faster", 3, 4),
         ("sooner", 2, 9), ("sooner", 3, 9), ("earlier", 0, 3), ("earlier", 2, 3), ("best", 4), ("fewest", 0),
         ("crowd",), ("free",), ("state",), ("open", 301), ("open", 1), ("free",), ("state",),
         ("leave", 1), ("sum",), ("start", 1), ("fewest", 0), ("come", 0, 0), ("sum",)]


class Interface(unittest.TestCase):

    def test_the_list_as_it_is_given_back(self):
        calls = [5, 0, 1, 301, 0, 2, 4, 0, 1, 2, 9, 1, 2, 9, 1, 3, 9, 3, 2, 6, 9, 3, 11, 1, 8, 2001]
        given = [1, -11, 1, -22, 1, 2, 1, 0, 1, 1, 1, 2, 4, 1, 3, 11, 20, 2, 8, 2, 3, 2, 1, 2, 3, 2, 0, 2, 1, -22]
        self.assertEqual(answers(calls), given)

    def test_the_other_calls_as_they_are_given_back(self):
        calls = [22, 0, 2, 4, 0, 1, 2, 9, 1, 2, 9, 1, 3, 9, 12, 1, 13, 1, 14, 0, 4, 15, 2, 9, 16, 0, 3, 17, 4, 18, 0,
                 19, 20, 301, 20, 1, 21, 22, 16, 3, 0, 13, 3]
        given = [1, -11, 1, 2, 1, 0, 1, 1, 1, 2, 3, 9, 1, 13, 3, 9, 1, 13, 3, 4, 6, 16, 3, 2, 11, 20, 3, 2, 8, 20,
                 2, 0, 2, 1, 3, 1, 3, 1, -22, 1, 2, 4, 3, 13, 11, 11, 4, 3, 4, 0, 1, 1, -2, 1, -2]
        self.assertEqual(answers(calls), given)

    def test_every_call_is_asked_here(self):
        self.assertEqual({call[0] for call in EVERY}, set(NAMES))

    def test_no_number_but_a_refusal_is_below_0(self):
        for call, answer in zip(EVERY, ask(*EVERY)):
            with self.subTest(call=call):
                self.assertTrue(min(answer) >= 0 or len(answer) == 1)

    def test_whole_numbers_in_a_plain_list(self):
        given = answers(flat(EVERY))
        self.assertIs(type(given), list)
        for number in given:
            self.assertIs(type(number), int)

    def test_what_is_handed_in_is_not_changed(self):
        calls = flat(EVERY)
        self.assertEqual(answers(Untouchable(calls)), answers(calls))
        self.assertEqual(calls, flat(EVERY))

    def test_a_second_time_answers_as_the_first(self):
        first = ask(*EVERY)
        self.assertEqual(ask(("sum",), ("come", 0, 0)), [[-11], [-11]])
        self.assertEqual(ask(*EVERY), first)

    def test_what_is_given_back_is_new_each_time(self):
        first = answers(flat(EVERY))
        kept = first[:]
        first.clear()
        self.assertEqual(answers(flat(EVERY)), kept)

    def test_one_call_alone(self):
        self.assertEqual(answers([7]), [1, -11])
        self.assertEqual(answers([0, 0]), [1, -22])
        self.assertEqual(answers([0, 1, 300]), [1, 1])

    def test_200_calls(self):
        calls = [("start", 0)] + [("come", 0, 1)] * 20 + [("line", 0)] * 179
        self.assertEqual(ask(*calls)[21:], [[19, *range(1, 20)]] * 179)
        self.assertEqual(ask(*[("sum",)] * 200), [[-11]] * 200)

    def test_200_starts_with_60_numbers(self):
        self.assertEqual(ask(*[("start", *[HIGHEST] * 60)] * 200), [[-22]] * 200)

    def test_a_row_may_look_like_calls(self):
        self.assertEqual(ask(("start", 0, 1, 0, 2), ("of", 3), ("of", 4)), [[4], [0], [-2]])


if __name__ == "__main__":
    unittest.main()
