"""vw_round (of point 5)."""

import unittest

from tests.helper import ask, last

# 0 has 1 and 2 beside it, 1 has 3 and 4.
FORK = [("start", 0), ("village", 0, 10, 0), ("village", 0, 200, 0), ("village", 1, 3, 0), ("village", 1, 4, 0)]


class Round(unittest.TestCase):

    def test_none_rides(self):
        self.assertEqual(last(("start", 5), ("round",)), [0, 0])
        self.assertEqual(last(*FORK, ("round",)), [0, 0])

    def test_there_and_back(self):
        self.assertEqual(last(*FORK, ("bus", 3, 1), ("round",)), [26, 1])

    def test_a_road_that_several_have_is_gone_once_each_way(self):
        told = ask(*FORK, ("bus", 3, 1), ("bus", 4, 1), ("round",), ("bus", 1, 1), ("round",), ("bus", 2, 1),
                   ("round",))
        self.assertEqual(told[5:], [[1], [2], [34, 2], [3], [34, 3], [4], [434, 4]])

    def test_the_schools_village_rides_no_road(self):
        self.assertEqual(last(*FORK, ("bus", 0, 1), ("round",)), [0, 1])
        self.assertEqual(last(*FORK, ("bus", 0, 1), ("school", 3), ("round",)), [26, 1])

    def test_from_a_school_that_is_not_in_village_0(self):
        made = FORK + [("bus", 4, 1), ("school", 3)]
        self.assertEqual(last(*made, ("round",)), [14, 1])
        self.assertEqual(last(*made, ("bus", 3, 1), ("round",)), [14, 2])
        self.assertEqual(last(*made, ("bus", 2, 1), ("round",)), [434, 2])

    def test_who_no_longer_rides(self):
        self.assertEqual(last(*FORK, ("bus", 2, 1), ("bus", 3, 1), ("bus", 2, 0), ("round",)), [26, 1])

    def test_the_longest(self):
        made = [("start", 0)] + [("village", v // 2, 1000, 0) for v in range(9)]
        made += [("bus", v, 1) for v in range(10)]
        self.assertEqual(last(*made, ("round",)), [18000, 10])


if __name__ == "__main__":
    unittest.main()
