"""How calls are handed in and answers given back."""

import contextlib
import io
import itertools
import unittest

from tests.helper import BIGGEST, CHANGES, NUMBERS, TAKES, flat, last
from valleyvotes.valley import answers

# One of each call, with refusals among them.
LINE = [
    ("start", 3), ("village", 0, 5, 2), ("village", 1, 7, 4), ("village", 9, 1, 1), ("many", 1, 3), ("road", 2, 8),
    ("elect",), ("school", 2), ("bus", 0, 1), ("post", 0, 1), ("posts", 8), ("posts", 8), ("chosen",), ("unbeaten",),
    ("rather", 0, 2), ("ways", 0), ("best",), ("lie", 0, 2), ("move", 0, 1), ("round",),
    ("from", 1), ("stop", 1), ("pays", 0), ("saves", 1), ("mean", 0), ("joins", 1), ("far", 0), ("farthest",),
    ("fewest", 8), ("with", 8), ("within", 4), ("near",), ("look", 1), ("sums",), ("back",), ("again",), ("state",),
    ("pays", 1), ("start", 101), ("start", 5), ("chosen",), ("state",),
]
TOLD = [
    1, 0, 1, 1, 1, 2, 1, -2, 1, 2, 1, 7,
    2, 1, 0, 1, 1, 1, 1, 1, 1, 2, 2, 6, 1, -17, 2, 1, 47, 2, 1, 2,
    2, 6, 4, 1, 67, 2, 47, 2, 3, 1, 5, 5, 2, 2, 4, 2, 26, 1,
    1, 10, 2, 1, 8, 2, 26, 1, 2, 0, 1, 2, 26, 1, 2, 0, 20160, 1, 13, 2, 0, 13,
    2, 1, 2, 2, 2, 6, 2, 0, 1, 2, 2, 0, 5, 4, 0, 5, 0, 1, 4, 10, 2, 1, 6, 1, 9, 1, 0, 3, 3, 10, 0,
    1, -16, 1, -22, 1, 0, 2, 0, 0, 3, 1, 0, 0,
]


class Interface(unittest.TestCase):

    def test_one_of_each(self):
        self.assertEqual({call[0] for call in LINE}, set(NUMBERS))
        self.assertEqual(sorted(NUMBERS.values()), list(range(34)))
        self.assertEqual(answers(flat(LINE)), TOLD)

    def test_the_numbers_of_the_calls(self):
        calls = [0, 3, 1, 0, 5, 2, 1, 1, 7, 4, 1, 9, 1, 1, 2, 1, 3, 3, 2, 8, 4, 5, 2, 6, 0, 1, 7, 0, 1, 8, 8, 8, 8, 9,
                 10, 11, 0, 2, 12, 0, 13, 14, 0, 2, 15, 0, 1, 16,
                 17, 1, 18, 1, 19, 0, 20, 1, 21, 0, 22, 1, 23, 0, 24, 25, 8, 26, 8, 27, 4, 28, 29, 1, 30, 31, 32, 33,
                 19, 1, 0, 101, 0, 5, 9, 33]
        self.assertEqual(flat(LINE), calls)
        self.assertEqual(answers(calls), TOLD)

    def test_one_call(self):
        self.assertEqual(answers([0, 0]), [1, 0])
        self.assertEqual(answers([0, BIGGEST]), [1, -22])

    def test_what_is_handed_in_is_the_same_afterwards(self):
        calls = flat(LINE)
        before = list(calls)
        answers(calls)
        self.assertEqual(calls, before)

    def test_it_is_not_changed_for_a_while_either(self):
        class Still(list):
            def refuse(self, *args, **kwargs):
                raise AssertionError("what was handed in is changed")
            append = extend = insert = pop = remove = clear = sort = reverse = refuse
            __setitem__ = __delitem__ = __iadd__ = __imul__ = refuse
        self.assertEqual(answers(Still(flat(LINE))), TOLD)

    def test_the_same_is_answered_the_same_twice(self):
        calls = flat(LINE)
        first = answers(calls)
        answers(flat([("start", 100), ("village", 0, 1000, 100), ("bus", 1, 1), ("post", 1, 1), ("school", 1)]))
        self.assertEqual(answers(calls), first)
        self.assertEqual(answers([0, 2, 1, 0, 1, 1, 16, 7, 1, 0, 5, 0]), [1, 0, 1, 1, 2, 0, 0, 1, -17, 1, -17])

    def test_what_is_given_back_is_not_kept(self):
        first = answers(flat(LINE))
        first.clear()
        self.assertEqual(answers(flat(LINE)), TOLD)

    def test_whole_numbers_in_a_list(self):
        told = answers(flat(LINE))
        self.assertIs(type(told), list)
        for number in told:
            self.assertIs(type(number), int)

    def test_prints_nothing(self):
        out = io.StringIO()
        with contextlib.redirect_stdout(out), contextlib.redirect_stderr(out):
            answers(flat(LINE))
        self.assertEqual(out.getvalue(), "")

    def test_a_thousand_calls(self):
        full = [("start", 1)] + [("village", v, 1000, 100) for v in range(9)]
        calls = flat(full + [("posts", v % 7 * 999) for v in range(500)] + [("lie", 0, 9)] * 490)
        told = answers(calls)
        self.assertEqual(told[-4:], [3, 5, 5000, 5000])

    def test_a_thousand_of_each_question(self):
        full = [("start", 1)] + [("village", v, 1000, 100) for v in range(9)]
        riding = [("bus", v, 1) for v in range(5, 10)]
        made = full + riding + [("post", 0, 1)]
        given = {"rather": (0, 9), "ways": (9,), "lie": (0, 9), "from": (9,), "stop": (18,), "pays": (9,),
                 "saves": (992,), "mean": (9,), "joins": (4,), "far": (9,), "fewest": (1000,), "with": (1000,),
                 "within": (1000,), "look": (9,)}
        asked = set(NUMBERS) - {"start", "back", "again", *CHANGES}
        for name in asked:
            call = (name, *given.get(name, ()))
            told = last(*made, *[call] * (1000 - len(made)))
            self.assertEqual(told, last(*made, call), call)
            self.assertGreaterEqual(told[0], 0, call)

    def test_any_number_is_answered_wherever_it_stands(self):
        made = [("start", 1), ("village", 0, 5, 2), ("bus", 1, 1), ("post", 1, 1)]
        for name, takes in TAKES.items():
            for numbers in itertools.product((0, 1, 2, 31, 32, 63, 64, 2 ** 31 - 1, 2 ** 31, BIGGEST), repeat=takes):
                told = last(*made, (name, *numbers))
                self.assertTrue(told[0] >= 0 or len(told) == 1, (name, numbers))
                self.assertIn(told[0] if told[0] < 0 else 0, (0, -2, -6, -16, -17, -22, -28, -33), (name, numbers))

    def test_the_most_numbers(self):
        calls = flat([("start", 0)] + [("village", 0, 1, 0)] * 9 + [("village", 0, 1, 0)] * 990)
        self.assertEqual(answers(calls), [1, 0] + [n for k in range(1, 10) for n in (1, k)] + [1, -28] * 990)


if __name__ == "__main__":
    unittest.main()
