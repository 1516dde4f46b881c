"""vw_start, and what stays as it was where a call is refused (point 1)."""

import unittest

from tests.helper import BIGGEST, ask, last, probe

# Three villages with everything in it that can be lost: roads, children, a school, riders and posts.
FURNISHED = [
    ("start", 3), ("village", 0, 5, 2), ("village", 1, 7, 100), ("village", 1, 2, 0),
    ("school", 1), ("bus", 2, 1), ("bus", 3, 1), ("post", 0, 1), ("post", 3, 1),
]


class Start(unittest.TestCase):

    def test_answers_0(self):
        for m in (0, 1, 99, 100):
            self.assertEqual(ask(("start", m)), [[0]])

    def test_more_than_100_children_are_refused(self):
        for m in (101, 102, 1000, BIGGEST):
            self.assertEqual(ask(("start", m)), [[-22]])

    def test_a_refused_start_may_be_followed_by_another(self):
        told = ask(("start", 101), ("start", BIGGEST), ("start", 100), ("chosen",), ("many", 0, 1))
        self.assertEqual(told, [[-22], [-22], [0], [0, 0], [100]])

    def test_one_village_with_its_children_and_nothing_else(self):
        told = ask(("start", 8), ("many", 1, 1), ("round",), ("bus", 0, 0), ("post", 0, 0), ("school", 0),
                   ("many", 0, 8))
        self.assertEqual(told, [[0], [-2], [0, 0], [-17], [-17], [-17], [8]])

    def test_begins_anew(self):
        fresh = [("start", 6)]
        self.assertEqual(ask(*FURNISHED, *fresh, *probe(4))[len(FURNISHED):], ask(*fresh, *probe(4)))

    def test_begins_anew_in_a_full_valley(self):
        full = [("start", 1)] + [("village", 0, 1, 1)] * 9
        told = ask(*full, ("start", 2), ("village", 0, 3, 4))
        self.assertEqual(told[-2:], [[0], [1]])

    def test_a_refused_start_leaves_all_as_it_was(self):
        for m in (101, BIGGEST):
            told = ask(*FURNISHED, ("start", m), *probe(4))
            self.assertEqual(told[len(FURNISHED)], [-22])
            self.assertEqual(told[len(FURNISHED) + 1:], ask(*FURNISHED, *probe(4))[len(FURNISHED):])


class Refused(unittest.TestCase):

    def left_as_it_was(self, made, refused, answer, villages):
        told = ask(*made, refused, *probe(villages))
        self.assertEqual(told[len(made)], [answer], refused)
        self.assertEqual(told[len(made) + 1:], ask(*made, *probe(villages))[len(made):], refused)

    def test_each_refusal_leaves_all_as_it_was(self):
        refusals = [
            (("village", 4, 1, 1), -2), (("village", 0, 0, 1), -22), (("village", 0, 1001, 1), -22),
            (("village", 0, 1, 101), -22),
            (("many", 4, 1), -2), (("many", 0, 101), -22),
            (("road", 4, 1), -2), (("road", 1, 0), -22), (("road", 1, 1001), -22), (("road", 0, 1), -33),
            (("move", 4, 0), -2), (("move", 0, 4), -2), (("move", 0, 0), -22), (("move", 3, 0), -6),
            (("move", 0, 2), -28),
            (("school", 4), -2), (("school", 1), -17),
            (("bus", 4, 1), -2), (("bus", 0, 2), -22), (("bus", 2, 1), -17), (("bus", 0, 0), -17),
            (("post", 4, 1), -2), (("post", 1, 2), -22), (("post", 3, 1), -17), (("post", 1, 0), -17),
            (("rather", 4, 0), -2), (("rather", 0, 4), -2), (("ways", 4), -2),
            (("lie", 4, 0), -2), (("lie", 0, 4), -2), (("lie", 3, 0), -6),
            (("from", 4), -2), (("stop", 7), -33), (("pays", 4), -2), (("pays", 0), -16), (("saves", 16), -22),
            (("saves", 1), -16), (("mean", 4), -2), (("mean", 0), -16), (("joins", 4), -2), (("joins", 2), -17),
            (("far", 4), -2), (("look", 4), -2), (("again",), -2),
        ]
        for refused, answer in refusals:
            self.left_as_it_was(FURNISHED, refused, answer, 4)

    def test_refusals_of_valleys_of_their_own(self):
        self.left_as_it_was(FURNISHED + [("elect",)], ("elect",), -17, 4)
        self.left_as_it_was(FURNISHED + [("posts", 7)], ("posts", 7), -17, 4)
        empty = [("start", 0), ("village", 0, 4, 0), ("school", 1), ("post", 0, 1)]
        self.left_as_it_was(empty, ("elect",), -6, 2)
        self.left_as_it_was(empty, ("chosen",), -6, 2)
        self.left_as_it_was(empty, ("farthest",), -6, 2)
        self.left_as_it_was([("start", 3), ("village", 0, 4, 1), ("bus", 1, 1)], ("near",), -6, 2)
        self.left_as_it_was([("start", 3)], ("back",), -2, 1)
        riding = [("start", 1)] + [("village", 0, 2, 3)] * 9 + [("bus", v, 1) for v in range(6)]
        self.left_as_it_was(riding, ("mean", 5), -28, 10)
        full = [("start", 1)] + [("village", 0, 2, 3)] * 9
        self.left_as_it_was(full, ("village", 9, 1000, 100), -28, 10)

    def test_asking_changes_nothing(self):
        asks = [("chosen",), ("unbeaten",), ("rather", 0, 2), ("ways", 2), ("best",), ("lie", 2, 0), ("round",),
                ("from", 2), ("stop", 2), ("pays", 2), ("saves", 12), ("mean", 3), ("joins", 0), ("far", 2),
                ("farthest",), ("fewest", 2), ("with", 2), ("within", 2), ("near",), ("look", 2), ("sums",), ("state",)]
        for call in asks:
            told = ask(*FURNISHED, call, *probe(4))
            self.assertGreaterEqual(told[len(FURNISHED)][0], 0)
            self.assertEqual(told[len(FURNISHED) + 1:], ask(*FURNISHED, *probe(4))[len(FURNISHED):], call)

    def test_no_village_is_looked_at_first(self):
        for v in (4, 5, 10, 31, 32, 64, 2 ** 31, BIGGEST):
            for call in (("village", v, 0, 101), ("village", v, BIGGEST, BIGGEST), ("many", v, BIGGEST), ("road", v, 0),
                         ("move", v, v), ("move", 3, v), ("school", v), ("bus", v, BIGGEST), ("post", v, 2),
                         ("rather", v, v), ("ways", v), ("lie", 3, v), ("lie", v, 3), ("from", v), ("pays", v),
                         ("mean", v), ("joins", v), ("far", v), ("look", v)):
                self.assertEqual(last(*FURNISHED, call), [-2], call)


if __name__ == "__main__":
    unittest.main()
