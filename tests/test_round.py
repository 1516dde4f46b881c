"""vw_round, vw_from, vw_stop (of point 5)."""

import unittest

from tests.helper import BIGGEST, ask, last

# 0 has 1 and 2 beside it, 1 has 3 and 4.
FORK = [("start", 0), ("village", 0, 10, 0), ("village", 0, 200, 0), ("village", 1, 3, 0), ("village", 1, 4, 0)]
# 0 - 1 - .. - 9, each road as long as can be.
PATH = [("start", 0)] + [("village", v, 1000, 0) for v in range(9)]
ALL = [("bus", v, 1) for v in range(10)]


class Round(unittest.TestCase):

    def test_none_rides(self):
        self.assertEqual(last(("start", 5), ("round",)), [0, 0])
        self.assertEqual(last(*FORK, ("round",)), [0, 0])

    def test_there_and_back(self):
        self.assertEqual(last(*FORK, ("bus", 3, 1), ("round",)), [26, 1])

    def test_a_road_that_several_have_is_gone_once_each_way(self):
        told = ask(*FORK, ("bus", 3, 1), ("bus", 4, 1), ("round",), ("bus", 1, 1), ("round",), ("bus", 2, 1),
                   ("round",))
        self.assertEqual(told[5:], [[1], [2], [34, 2], [3], [34, 3], [4], [434, 4]])

    def test_the_schools_village_rides_no_road(self):
        self.assertEqual(last(*FORK, ("bus", 0, 1), ("round",)), [0, 1])
        self.assertEqual(last(*FORK, ("bus", 0, 1), ("school", 3), ("round",)), [26, 1])

    def test_from_a_school_that_is_not_in_village_0(self):
        made = FORK + [("bus", 4, 1), ("school", 3)]
        self.assertEqual(last(*made, ("round",)), [14, 1])
        self.assertEqual(last(*made, ("bus", 3, 1), ("round",)), [14, 2])
        self.assertEqual(last(*made, ("bus", 2, 1), ("round",)), [434, 2])

    def test_who_no_longer_rides(self):
        self.assertEqual(last(*FORK, ("bus", 2, 1), ("bus", 3, 1), ("bus", 2, 0), ("round",)), [26, 1])

    def test_the_longest(self):
        made = [("start", 0)] + [("village", v // 2, 1000, 0) for v in range(9)]
        made += [("bus", v, 1) for v in range(10)]
        self.assertEqual(last(*made, ("round",)), [18000, 10])


class From(unittest.TestCase):

    def test_as_if_the_school_were_there(self):
        told = ask(*FORK, ("bus", 3, 1), *[("from", a) for a in range(5)])
        self.assertEqual(told[6:], [[26], [6], [426], [0], [14]])
        told = ask(*FORK, ("bus", 3, 1), ("bus", 2, 1), *[("from", a) for a in range(5)])
        self.assertEqual(told[7:], [[426], [426], [426], [426], [434]])

    def test_the_school_stays(self):
        told = ask(*FORK, ("bus", 3, 1), ("from", 2), ("round",), ("school", 0), ("school", 4), ("from", 0),
                   ("from", 4))
        self.assertEqual(told[6:], [[426], [26, 1], [-17], [0], [26], [14]])

    def test_none_rides(self):
        self.assertEqual(ask(*FORK, *[("from", a) for a in range(5)])[5:], [[0]] * 5)

    def test_the_schools_own_village_rides(self):
        self.assertEqual(ask(*FORK, ("bus", 0, 1), ("from", 0), ("from", 4))[6:], [[0], [28]])

    def test_all_ten_ride(self):
        self.assertEqual(ask(*PATH, *ALL, *[("from", a) for a in range(10)])[20:], [[18000]] * 10)

    def test_refusals(self):
        for a in (5, 10, 2 ** 31, BIGGEST):
            self.assertEqual(last(*FORK, ("from", a)), [-2])


class Stop(unittest.TestCase):

    def goes(self, made, expected):
        """The bus goes through these villages, having gone so far, and no farther."""
        told = ask(*made, *[("stop", k) for k in range(len(expected) + 2)])[len(made):]
        self.assertEqual(told, [list(stop) for stop in expected] + [[-33], [-33]])

    def test_the_lesser_number_first(self):
        riding = [("bus", v, 1) for v in (4, 2, 3)]
        self.goes(FORK + riding, [(0, 0), (1, 10), (3, 13), (1, 16), (4, 20), (1, 24), (0, 34), (2, 234), (0, 434)])

    def test_not_the_shorter_road_first(self):
        made = [("start", 0), ("village", 0, 9, 0), ("village", 0, 1, 0), ("village", 0, 5, 0)]
        riding = [("bus", 3, 1), ("bus", 2, 1), ("bus", 1, 1)]
        self.goes(made + riding, [(0, 0), (1, 9), (0, 18), (2, 19), (0, 20), (3, 25), (0, 30)])

    def test_an_up_has_the_lesser_number(self):
        riding = [("bus", 2, 1), ("bus", 3, 1)]
        self.goes(FORK + riding + [("school", 1)],
                  [(1, 0), (0, 10), (2, 210), (0, 410), (1, 420), (3, 423), (1, 426)])
        self.goes(FORK + [("bus", 0, 1), ("bus", 3, 1), ("school", 4)],
                  [(4, 0), (1, 4), (0, 14), (1, 24), (3, 27), (1, 30), (4, 34)])

    def test_only_roads_on_the_ways(self):
        self.goes(FORK + [("bus", 4, 1)], [(0, 0), (1, 10), (4, 14), (1, 18), (0, 28)])
        self.goes(FORK + [("bus", 1, 1)], [(0, 0), (1, 10), (0, 20)])

    def test_a_village_on_the_way_that_rides_too(self):
        self.goes(FORK + [("bus", 4, 1), ("bus", 1, 1), ("bus", 0, 1)], [(0, 0), (1, 10), (4, 14), (1, 18), (0, 28)])

    def test_none_rides(self):
        self.goes(FORK, [(0, 0)])
        self.goes(FORK + [("school", 3)], [(3, 0)])
        self.goes([("start", 1)], [(0, 0)])

    def test_the_schools_own_village_rides(self):
        self.goes(FORK + [("school", 3), ("bus", 3, 1)], [(3, 0)])

    def test_all_ten_ride(self):
        there = [(v, 1000 * v) for v in range(10)]
        back = [(v, 18000 - 1000 * v) for v in range(8, -1, -1)]
        self.goes(PATH + ALL, there + back)

    def test_far_behind_the_last(self):
        made = FORK + [("bus", 3, 1)]
        for k in (5, 6, 100, 2 ** 31, 2 ** 32 - 2, BIGGEST):
            self.assertEqual(last(*made, ("stop", k)), [-33])
        self.assertEqual(last(*made, ("stop", 4)), [0, 26])

    def test_the_last_is_the_schools_again_and_the_round_is_gone(self):
        for school in range(5):
            moved = [("school", school)] if school > 0 else []
            made = FORK + moved + [("bus", v, 1) for v in (2, 3, 4)]
            told = ask(*made, ("round",), *[("stop", k) for k in range(20)])[len(made):]
            stops = [stop for stop in told[1:] if stop != [-33]]
            self.assertEqual(stops[-1], [school, told[0][0]])
            self.assertEqual(stops[0], [school, 0])


if __name__ == "__main__":
    unittest.main()
