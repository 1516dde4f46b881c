"""vw_village, vw_many, vw_road, vw_move (point 2)."""

import unittest

from tests.helper import BIGGEST, ask, last

FULL = [("start", 1)] + [("village", 0, 1, 1)] * 9


class Village(unittest.TestCase):

    def test_answers_its_number(self):
        told = ask(*FULL)
        self.assertEqual(told, [[k] for k in range(10)])

    def test_its_road_and_its_children(self):
        made = [("start", 0), ("village", 0, 1, 0), ("village", 1, 1000, 100), ("village", 1, 20, 0)]
        told = ask(*made, ("ways", 0), ("ways", 1), ("ways", 2), ("ways", 3), ("many", 2, 4), ("road", 2, 5))
        self.assertEqual(told[4:], [[100100], [100000], [0], [102000], [100], [1000]])

    def test_each_may_be_an_up(self):
        made = [("start", 1)] + [("village", v, 1000, 0) for v in range(9)]
        self.assertEqual(last(*made, ("ways", 9)), [9000])
        self.assertEqual(last(*made, ("ways", 4)), [4000])

    def test_there_is_no_such_up(self):
        for up in (1, 2, 10, BIGGEST):
            self.assertEqual(last(("start", 1), ("village", up, 1, 1)), [-2])

    def test_a_wrong_road_or_too_many_children(self):
        for far, m in ((0, 1), (1001, 1), (BIGGEST, 1), (1, 101), (1, BIGGEST), (0, 101), (BIGGEST, BIGGEST)):
            self.assertEqual(last(("start", 1), ("village", 0, far, m)), [-22])

    def test_the_edges_are_taken(self):
        for far, m in ((1, 0), (1, 100), (1000, 0), (1000, 100)):
            self.assertEqual(last(("start", 1), ("village", 0, far, m)), [1])

    def test_there_are_10(self):
        self.assertEqual(last(*FULL, ("village", 9, 1, 1)), [-28])

    def test_which_refusal_is_answered_in_a_full_valley(self):
        self.assertEqual(last(*FULL, ("village", 10, 0, 101)), [-2])
        self.assertEqual(last(*FULL, ("village", 9, 0, 1)), [-22])
        self.assertEqual(last(*FULL, ("village", 9, 1, 101)), [-22])


class Many(unittest.TestCase):

    def test_how_many_it_had(self):
        told = ask(("start", 7), ("many", 0, 0), ("many", 0, 100), ("many", 0, 100), ("many", 0, 1))
        self.assertEqual(told[1:], [[7], [0], [100], [100]])

    def test_only_that_village_is_changed(self):
        told = ask(("start", 7), ("village", 0, 1, 3), ("many", 1, 9), ("many", 0, 7), ("many", 1, 9))
        self.assertEqual(told[2:], [[3], [7], [9]])

    def test_refusals(self):
        for v, n, answer in ((1, 1, -2), (BIGGEST, 1, -2), (1, 101, -2), (0, 101, -22), (0, BIGGEST, -22)):
            self.assertEqual(last(("start", 1), ("many", v, n)), [answer])


class Road(unittest.TestCase):

    def test_how_long_it_was(self):
        told = ask(("start", 1), ("village", 0, 6, 0), ("road", 1, 1), ("road", 1, 1000), ("road", 1, 1000),
                   ("road", 1, 9))
        self.assertEqual(told[2:], [[6], [1], [1000], [1000]])

    def test_ways_are_as_long_as_it_is_now(self):
        made = [("start", 1), ("village", 0, 6, 0), ("village", 1, 10, 0), ("road", 1, 400)]
        self.assertEqual(last(*made, ("ways", 2)), [410])

    def test_refusals(self):
        made = [("start", 1), ("village", 0, 6, 0)]
        for v, n, answer in ((2, 1, -2), (BIGGEST, 0, -2), (1, 0, -22), (1, 1001, -22), (1, BIGGEST, -22),
                             (0, 0, -22), (0, 1001, -22), (0, 1, -33), (0, 1000, -33)):
            self.assertEqual(last(*made, ("road", v, n)), [answer])

    def test_village_0_alone_has_no_road_either(self):
        self.assertEqual(last(("start", 1), ("road", 0, 5)), [-33])


class Move(unittest.TestCase):

    def test_a_child_goes(self):
        told = ask(("start", 2), ("village", 0, 6, 98), ("move", 0, 1), ("move", 0, 1), ("move", 1, 0), ("many", 0, 0),
                   ("many", 1, 0))
        self.assertEqual(told[2:], [[1, 99], [0, 100], [99, 1], [1], [99]])

    def test_between_villages_that_are_not_beside_each_other(self):
        made = [("start", 5), ("village", 0, 1, 5), ("village", 1, 1, 5), ("move", 2, 0)]
        self.assertEqual(ask(*made, ("many", 0, 1), ("many", 1, 1), ("many", 2, 1))[3:], [[4, 6], [6], [5], [4]])

    def test_refusals(self):
        made = [("start", 100), ("village", 0, 6, 0), ("village", 0, 6, 3)]
        for v, w, answer in ((3, 0, -2), (0, 3, -2), (3, 3, -2), (BIGGEST, 0, -2), (1, BIGGEST, -2),
                             (0, 0, -22), (1, 1, -22), (2, 2, -22), (1, 2, -6), (1, 0, -6), (2, 0, -28)):
            self.assertEqual(last(*made, ("move", v, w)), [answer], (v, w))


if __name__ == "__main__":
    unittest.main()
