"""vw_pays, vw_saves, vw_mean, vw_joins (of point 5)."""

import unittest

from tests.helper import BIGGEST, ask, last

# 0 has 1 and 2 beside it, 1 has 3 and 4.
FORK = [("start", 0), ("village", 0, 10, 0), ("village", 0, 200, 0), ("village", 1, 3, 0), ("village", 1, 4, 0)]
# 0 - 1 - .. - 9, each road 1 long.
PATH = [("start", 0)] + [("village", v, 1, 0) for v in range(9)]


def riding(*villages):
    """The calls by which these ride."""
    return [("bus", v, 1) for v in villages]


class Pays(unittest.TestCase):

    def test_alone(self):
        self.assertEqual(last(*FORK, *riding(3), ("pays", 3)), [26, 1])

    def test_a_road_is_shared_by_those_that_have_it(self):
        told = ask(*FORK, *riding(2, 3, 4), ("pays", 2), ("pays", 3), ("pays", 4))
        self.assertEqual(told[8:], [[400, 1], [16, 1], [18, 1]])

    def test_a_fraction(self):
        told = ask(*FORK, *riding(1, 3, 4), ("pays", 1), ("pays", 3), ("pays", 4))
        self.assertEqual(told[8:], [[20, 3], [38, 3], [44, 3]])

    def test_nothing_in_common(self):
        # The roads are shared by 9, 8, 7 and so on: the last pays 2 / 9 + 2 / 8 + .. + 2 / 1.
        told = ask(*PATH, *riding(*range(10)), *[("pays", v) for v in range(10)])
        self.assertEqual(told[20:], [[0, 1], [2, 9], [17, 36], [191, 252], [275, 252], [1879, 1260], [2509, 1260],
                                     [3349, 1260], [4609, 1260], [7129, 1260]])

    def test_half_is_not_told_by_two(self):
        made = [("start", 0), ("village", 0, 1, 0), ("village", 1, 1, 0)]
        self.assertEqual(ask(*made, *riding(1, 2), ("pays", 1), ("pays", 2))[5:], [[1, 1], [3, 1]])

    def test_the_schools_own_village(self):
        self.assertEqual(last(*FORK, *riding(0), ("pays", 0)), [0, 1])
        self.assertEqual(ask(*FORK, ("school", 3), *riding(3, 4), ("pays", 3), ("pays", 4))[8:], [[0, 1], [14, 1]])

    def test_from_a_school_that_is_not_in_village_0(self):
        told = ask(*FORK, ("school", 3), *riding(0, 2, 4), ("pays", 0), ("pays", 2), ("pays", 4))
        self.assertEqual(told[9:], [[12, 1], [412, 1], [10, 1]])

    def test_the_longest(self):
        made = [("start", 0)] + [("village", v, 1000, 0) for v in range(9)]
        self.assertEqual(last(*made, *riding(9), ("pays", 9)), [18000, 1])
        self.assertEqual(last(*made, *riding(*range(10)), ("pays", 9)), [356450, 63])

    def test_refusals(self):
        for v, answer in ((5, -2), (10, -2), (BIGGEST, -2), (0, -16), (4, -16)):
            self.assertEqual(last(*FORK, *riding(3), ("pays", v)), [answer])
        self.assertEqual(last(("start", 3), ("pays", 0)), [-16])
        self.assertEqual(last(("start", 3), ("pays", 1)), [-2])

    def test_who_no_longer_rides(self):
        made = FORK + riding(3, 4) + [("bus", 3, 0)]
        self.assertEqual(ask(*made, ("pays", 3), ("pays", 4))[8:], [[-16], [28, 1]])


class Saves(unittest.TestCase):

    def test_one(self):
        told = ask(*FORK, *riding(2, 3, 4), ("saves", 0b00100), ("saves", 0b01000), ("saves", 0b10000))
        self.assertEqual(told[8:], [[0, 1], [10, 1], [10, 1]])

    def test_several(self):
        told = ask(*FORK, *riding(2, 3, 4), ("saves", 0b01100), ("saves", 0b11000), ("saves", 0b11100))
        self.assertEqual(told[8:], [[10, 1], [0, 1], [0, 1]])

    def test_a_fraction(self):
        told = ask(*FORK, *riding(1, 3, 4), ("saves", 0b01000), ("saves", 0b00010), ("saves", 0b11000),
                   ("saves", 0b11010))
        self.assertEqual(told[8:], [[40, 3], [40, 3], [20, 3], [0, 1]])

    def test_nobody(self):
        self.assertEqual(last(*FORK, ("saves", 0)), [0, 1])
        self.assertEqual(last(*FORK, *riding(3, 4), ("saves", 0)), [0, 1])

    def test_the_schools_own_village(self):
        self.assertEqual(ask(*FORK, *riding(0, 3), ("saves", 0b00001), ("saves", 0b01001))[7:], [[0, 1], [0, 1]])
        self.assertEqual(ask(*FORK, *riding(0, 3, 4), ("saves", 0b01001), ("saves", 0b11001))[8:], [[10, 1], [0, 1]])

    def test_all_ten(self):
        made = PATH + riding(*range(10))
        self.assertEqual(ask(*made, ("saves", 1023), ("saves", 512), ("saves", 1022))[20:],
                         [[0, 1], [15551, 1260], [0, 1]])

    def test_bits_of_others(self):
        for w in (0b100000, 0b101000, 0b100001, 1024, 2 ** 31, 2 ** 31 + 8, BIGGEST):
            self.assertEqual(last(*FORK, *riding(3), ("saves", w)), [-22], w)
        for w in (1024, 1025, 2047, 2 ** 31, BIGGEST):
            self.assertEqual(last(*PATH, *riding(*range(10)), ("saves", w)), [-22], w)
        self.assertEqual(last(("start", 1), ("saves", 2)), [-22])

    def test_one_that_does_not_ride(self):
        for w in (0b00001, 0b01001, 0b11000, 0b10000, 0b11111):
            self.assertEqual(last(*FORK, *riding(3), ("saves", w)), [-16], w)

    def test_which_refusal_is_answered(self):
        self.assertEqual(last(*FORK, ("saves", 0b100001)), [-22])
        self.assertEqual(last(*FORK, ("saves", BIGGEST)), [-22])


class Mean(unittest.TestCase):

    def test_one_order(self):
        self.assertEqual(last(*FORK, *riding(3), ("mean", 3)), [26, 1])

    def test_two_orders(self):
        told = ask(*FORK, *riding(3, 4), ("mean", 3), ("mean", 4))
        self.assertEqual(told[7:], [[32, 2], [36, 2]])

    def test_three_that_share_a_road(self):
        told = ask(*FORK, *riding(1, 3, 4), ("mean", 1), ("mean", 3), ("mean", 4))
        self.assertEqual(told[8:], [[40, 6], [76, 6], [88, 6]])

    def test_the_schools_own_village(self):
        self.assertEqual(ask(*FORK, *riding(0, 3), ("mean", 0), ("mean", 3))[7:], [[0, 2], [52, 2]])

    def test_five_ride(self):
        made = PATH + riding(1, 2, 3, 4, 5)
        told = ask(*made, *[("mean", v) for v in range(1, 6)])
        self.assertEqual(told[15:], [[48, 120], [108, 120], [188, 120], [308, 120], [548, 120]])

    def test_five_of_the_longest(self):
        made = [("start", 0)] + [("village", v, 1000, 0) for v in range(9)]
        self.assertEqual(last(*made, *riding(5, 6, 7, 8, 9), ("mean", 9)), [740000, 120])

    def test_six_ride(self):
        made = PATH + riding(1, 2, 3, 4, 5, 6)
        for v in range(1, 7):
            self.assertEqual(last(*made, ("mean", v)), [-28])
        self.assertEqual(last(*made, ("bus", 6, 0), ("mean", 5)), [548, 120])
        self.assertEqual(last(*PATH, *riding(*range(10)), ("mean", 0)), [-28])

    def test_the_schools_own_village_is_one_of_six(self):
        self.assertEqual(last(*PATH, *riding(0, 1, 2, 3, 4, 5), ("mean", 5)), [-28])
        self.assertEqual(last(*PATH, *riding(0, 1, 2, 3, 4), ("mean", 4)), [500, 120])

    def test_refusals(self):
        for v, answer in ((5, -2), (BIGGEST, -2), (0, -16), (4, -16)):
            self.assertEqual(last(*FORK, *riding(3), ("mean", v)), [answer])
        self.assertEqual(last(*FORK, ("mean", 0)), [-16])

    def test_which_refusal_is_answered(self):
        made = PATH + riding(1, 2, 3, 4, 5, 6)
        for v, answer in ((10, -2), (BIGGEST, -2), (0, -16), (9, -16), (1, -28)):
            self.assertEqual(last(*made, ("mean", v)), [answer])


class Joins(unittest.TestCase):

    def test_none_rides_yet(self):
        self.assertEqual(last(*FORK, ("joins", 2)), [400, 400 * 2520])
        self.assertEqual(last(*FORK, ("joins", 4)), [28, 28 * 2520])

    def test_a_road_that_another_has(self):
        told = ask(*FORK, *riding(3), ("joins", 4), ("joins", 1), ("joins", 2))
        self.assertEqual(told[6:], [[8, 18 * 2520], [0, 10 * 2520], [400, 400 * 2520]])

    def test_a_third(self):
        told = ask(*FORK, *riding(3, 4), ("joins", 1))
        self.assertEqual(told[7:], [[0, 16800]])

    def test_the_schools_own_village(self):
        self.assertEqual(last(*FORK, *riding(3), ("joins", 0)), [0, 0])
        self.assertEqual(last(("start", 1), ("joins", 0)), [0, 0])
        self.assertEqual(last(*FORK, ("school", 3), *riding(0), ("joins", 4)), [8, 2520 * 11])

    def test_the_last_of_ten(self):
        self.assertEqual(last(*PATH, *riding(*range(9)), ("joins", 9)), [2, 2 * 7129])

    def test_the_longest(self):
        made = [("start", 0)] + [("village", v, 1000, 0) for v in range(9)]
        self.assertEqual(last(*made, ("joins", 9)), [18000, 45360000])

    def test_it_does_not_ride_by_that(self):
        told = ask(*FORK, *riding(3), ("joins", 4), ("joins", 4), ("round",), ("pays", 4))
        self.assertEqual(told[6:], [[8, 45360], [8, 45360], [26, 1], [-16]])

    def test_what_it_pays_then(self):
        made = PATH + riding(3, 5, 9)
        joins = last(*made, ("joins", 7))
        upper, lower = last(*made, *riding(7), ("pays", 7))
        self.assertEqual(joins, [0, upper * 2520 // lower])

    def test_refusals(self):
        for v, answer in ((5, -2), (10, -2), (BIGGEST, -2), (3, -17)):
            self.assertEqual(last(*FORK, *riding(3), ("joins", v)), [answer])
        told = ask(*PATH, *riding(*range(10)), *[("joins", v) for v in range(11)])
        self.assertEqual(told[20:], [[-17]] * 10 + [[-2]])


if __name__ == "__main__":
    unittest.main()
