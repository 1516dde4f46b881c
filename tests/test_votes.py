"""vw_chosen, vw_unbeaten, vw_rather, vw_ways, vw_best, vw_lie (point 4)."""

import unittest

from tests.helper import BIGGEST, ask, last

LINE = [("start", 1)] + [("village", v, 10, 1) for v in range(4)]
# Village 0 in the middle of three, so far from it: 3, 4, 5.
STAR = [("start", 0), ("village", 0, 3, 2), ("village", 0, 4, 2), ("village", 0, 5, 1)]
CROWD = [("start", 100)] + [("village", v, 1000, 100) for v in range(9)]


class Chosen(unittest.TestCase):

    def test_an_odd_number(self):
        self.assertEqual(last(*LINE, ("chosen",)), [2, 60])
        self.assertEqual(last(*STAR, ("chosen",)), [0, 19])

    def test_just_more_than_half_in_one_branch(self):
        self.assertEqual(last(*STAR, ("many", 1, 3), ("chosen",)), [0, 22])
        self.assertEqual(last(*STAR, ("many", 1, 4), ("chosen",)), [1, 22])

    def test_an_even_number_counts_one_more_of_village_0(self):
        made = [("start", 0), ("village", 0, 5, 1), ("village", 1, 5, 1)]
        self.assertEqual(last(*made, ("chosen",)), [1, 5])
        made = [("start", 2), ("village", 0, 5, 0), ("village", 1, 5, 2)]
        self.assertEqual(last(*made, ("chosen",)), [0, 20])
        made = [("start", 0), ("village", 0, 5, 0), ("village", 1, 5, 2)]
        self.assertEqual(last(*made, ("chosen",)), [2, 0])

    def test_the_one_more_is_not_counted_in_the_ways(self):
        made = [("start", 0), ("village", 0, 7, 2)]
        self.assertEqual(last(*made, ("chosen",)), [1, 0])

    def test_no_children(self):
        self.assertEqual(last(("start", 0), ("chosen",)), [-6])
        self.assertEqual(last(("start", 1), ("village", 0, 1, 0), ("many", 0, 0), ("chosen",)), [-6])

    def test_one_village(self):
        self.assertEqual(last(("start", 1), ("chosen",)), [0, 0])
        self.assertEqual(last(("start", 100), ("chosen",)), [0, 0])

    def test_wherever_the_school_is(self):
        self.assertEqual(last(*LINE, ("school", 4), ("chosen",)), [2, 60])

    def test_the_largest_valley(self):
        self.assertEqual(last(*CROWD, ("chosen",)), [4, 2500000])


class Unbeaten(unittest.TestCase):

    def test_one(self):
        self.assertEqual(last(*LINE, ("unbeaten",)), [1, 0b00100])

    def test_several(self):
        self.assertEqual(last(*LINE, ("many", 2, 0), ("unbeaten",)), [3, 0b01110])
        self.assertEqual(last(*CROWD, ("unbeaten",)), [2, 0b110000])

    def test_all_if_there_are_no_children(self):
        made = [("start", 0)] + [("village", 0, 1, 0)] * 9
        self.assertEqual(last(*made, ("unbeaten",)), [10, 1023])
        self.assertEqual(last(("start", 0), ("unbeaten",)), [1, 1])


class Rather(unittest.TestCase):

    def test_the_nearer(self):
        self.assertEqual(last(*LINE, ("rather", 0, 4)), [2, 2])
        self.assertEqual(last(*LINE, ("rather", 0, 3)), [2, 3])
        self.assertEqual(last(*LINE, ("rather", 3, 0)), [3, 2])
        self.assertEqual(last(*LINE, ("rather", 1, 2)), [2, 3])

    def test_who_has_it_as_far_to_both_is_not_counted(self):
        self.assertEqual(last(*LINE, ("many", 2, 100), ("rather", 1, 3)), [2, 2])

    def test_one_village_twice(self):
        self.assertEqual(last(*LINE, ("rather", 3, 3)), [0, 0])

    def test_refusals(self):
        for v, w in ((5, 0), (0, 5), (5, 5), (BIGGEST, 1), (1, BIGGEST)):
            self.assertEqual(last(*LINE, ("rather", v, w)), [-2])


class Ways(unittest.TestCase):

    def test_all_ways(self):
        self.assertEqual(ask(*STAR, *[("ways", v) for v in range(4)])[4:], [[19], [22], [23], [34]])
        self.assertEqual(ask(*CROWD, ("ways", 0), ("ways", 9))[10:], [[4500000], [4500000]])

    def test_none(self):
        self.assertEqual(last(("start", 100), ("ways", 0)), [0])
        self.assertEqual(last(("start", 0), ("village", 0, 1000, 0), ("ways", 1)), [0])

    def test_refusals(self):
        for v in (4, 10, BIGGEST):
            self.assertEqual(last(*STAR, ("ways", v)), [-2])


class Best(unittest.TestCase):

    def test_one(self):
        self.assertEqual(last(*STAR, ("best",)), [19, 0b0001])

    def test_several(self):
        self.assertEqual(last(*LINE, ("many", 2, 0), ("best",)), [60, 0b01110])
        self.assertEqual(last(*CROWD, ("best",)), [2500000, 0b110000])

    def test_no_children(self):
        self.assertEqual(last(("start", 0), ("village", 0, 1, 0), ("village", 0, 1, 0), ("best",)), [0, 0b111])
        self.assertEqual(last(("start", 0), ("best",)), [0, 1])


class Lie(unittest.TestCase):

    def test_it_moves_the_choice_away(self):
        # 0 - 1 - 2, a child each: the one in 0 that says 2 draws the school to 2.
        made = [("start", 1), ("village", 0, 4, 1), ("village", 1, 6, 1)]
        self.assertEqual(last(*made, ("lie", 0, 2)), [2, 10, 4])
        self.assertEqual(last(*made, ("lie", 2, 0)), [0, 10, 6])
        self.assertEqual(last(*made, ("lie", 1, 2)), [2, 6, 0])

    def test_it_moves_nothing(self):
        self.assertEqual(last(*LINE, ("lie", 0, 1)), [2, 20, 20])

    def test_its_own_village_is_no_lie(self):
        self.assertEqual(last(*LINE, ("lie", 4, 4)), [2, 20, 20])

    def test_an_even_number_counts_one_more_of_village_0(self):
        made = [("start", 1), ("village", 0, 9, 1)]
        self.assertEqual(last(*made, ("lie", 0, 1)), [1, 9, 0])
        self.assertEqual(last(*made, ("lie", 1, 0)), [0, 9, 9])

    def test_a_village_with_100_may_be_told(self):
        made = [("start", 100), ("village", 0, 9, 100), ("village", 1, 1, 1)]
        self.assertEqual(last(*made, ("lie", 0, 1)), [1, 9, 9])
        self.assertEqual(last(*made, ("lie", 2, 0)), [0, 10, 1])

    def test_refusals(self):
        made = [("start", 0), ("village", 0, 9, 2)]
        for v, w, answer in ((2, 0, -2), (1, 2, -2), (0, 2, -2), (BIGGEST, 1, -2), (1, BIGGEST, -2), (0, 1, -6),
                             (0, 0, -6)):
            self.assertEqual(last(*made, ("lie", v, w)), [answer], (v, w))


if __name__ == "__main__":
    unittest.main()
