"""vw_far, vw_farthest, vw_fewest, vw_with, vw_within, vw_near, vw_look, vw_sums (point 6)."""

import unittest

from tests.helper import BIGGEST, ask, last

# 0 - 1 - 2 - 3 - 4, each road 10 long, a child in each.
LINE = [("start", 1)] + [("village", v, 10, 1) for v in range(4)]
# Village 0 in the middle of three, so far from it: 5, 3, 5.
STAR = [("start", 2), ("village", 0, 5, 1), ("village", 0, 3, 1), ("village", 0, 5, 1)]
# 0 - 1 - .. - 9, each road as long as can be.
PATH = [("start", 100)] + [("village", v, 1000, 100) for v in range(9)]
ANY = (0, 1, 9000, 2 ** 31, BIGGEST)


class Far(unittest.TestCase):

    def test_from_the_school(self):
        self.assertEqual(ask(*LINE, *[("far", v) for v in range(5)])[5:], [[0], [10], [20], [30], [40]])
        self.assertEqual(ask(*LINE, ("school", 3), *[("far", v) for v in range(5)])[6:], [[30], [20], [10], [0], [10]])

    def test_over_a_village_between(self):
        self.assertEqual(ask(*STAR, ("school", 2), *[("far", v) for v in range(4)])[5:], [[3], [8], [0], [8]])

    def test_the_farthest_there_can_be(self):
        self.assertEqual(ask(*PATH, ("far", 9), ("school", 9), ("far", 0))[10:], [[9000], [0], [9000]])

    def test_refusals(self):
        for v in (5, 10, BIGGEST):
            self.assertEqual(last(*LINE, ("far", v)), [-2])


class Farthest(unittest.TestCase):

    def test_which_and_how_far(self):
        self.assertEqual(last(*LINE, ("farthest",)), [4, 40])
        self.assertEqual(last(*LINE, ("school", 3), ("farthest",)), [0, 30])
        self.assertEqual(last(*PATH, ("farthest",)), [9, 9000])

    def test_of_like_ones_the_least(self):
        self.assertEqual(last(*LINE, ("school", 2), ("farthest",)), [0, 20])
        self.assertEqual(last(*STAR, ("farthest",)), [1, 5])
        self.assertEqual(last(*STAR, ("school", 2), ("farthest",)), [1, 8])

    def test_only_villages_with_children(self):
        self.assertEqual(last(*STAR, ("many", 1, 0), ("farthest",)), [3, 5])
        self.assertEqual(last(*STAR, ("many", 1, 0), ("many", 3, 0), ("farthest",)), [2, 3])
        self.assertEqual(last(*LINE, ("school", 2), ("many", 0, 0), ("many", 4, 0), ("farthest",)), [1, 10])

    def test_all_children_live_at_the_school(self):
        self.assertEqual(last(("start", 1), ("farthest",)), [0, 0])
        self.assertEqual(last(("start", 0), ("village", 0, 7, 3), ("school", 1), ("farthest",)), [1, 0])

    def test_no_children(self):
        self.assertEqual(last(("start", 0), ("farthest",)), [-6])
        self.assertEqual(last(("start", 0), ("village", 0, 7, 0), ("farthest",)), [-6])


class Fewest(unittest.TestCase):

    def test_in_each_village_if_none_reaches_another(self):
        for r in (0, 1, 9):
            self.assertEqual(last(*LINE, ("fewest", r)), [5, 0b11111])
        self.assertEqual(last(*PATH, ("fewest", 999)), [10, 1023])

    def test_just_as_far_as_r_is_within(self):
        self.assertEqual(last(*LINE, ("fewest", 19)), [2, 0b10010])
        self.assertEqual(last(*LINE, ("fewest", 20)), [1, 0b00100])

    def test_of_sets_alike_the_first_leaves_out_the_least_number(self):
        # {0, 3}, {1, 3} and {1, 4} do.
        self.assertEqual(last(*LINE, ("fewest", 10)), [2, 0b10010])
        # {1}, {2} and {3} do.
        self.assertEqual(last(*LINE, ("fewest", 30)), [1, 0b01000])
        self.assertEqual(last(*LINE, ("fewest", 39)), [1, 0b01000])

    def test_the_greater_number_told_is_not_always_the_first(self):
        # {0, 1}, {0, 4} and {1, 3} do: the last of them leaves out 0, though {0, 4} is told by more.
        made = [("start", 0), ("village", 0, 1, 0), ("village", 0, 1, 0), ("village", 0, 2, 0), ("village", 1, 2, 0)]
        self.assertEqual(last(*made, ("fewest", 2)), [2, 0b01010])

    def test_of_pairs_alike(self):
        made = [("start", 0), ("village", 0, 100, 0), ("village", 0, 1, 0), ("village", 1, 1, 0), ("village", 1, 1, 0)]
        # One of 0 and 2, and 1 alone, which reaches 3 and 4.
        self.assertEqual(last(*made, ("fewest", 1)), [2, 0b00110])
        # One of 0 and 2, and one of 1, 3, 4.
        self.assertEqual(last(*made, ("fewest", 2)), [2, 0b10100])

    def test_the_school_does_not_matter(self):
        for school in (1, 2, 3, 4):
            self.assertEqual(last(*LINE, ("school", school), ("fewest", 10)), [2, 0b10010])

    def test_any_r(self):
        for r in (40, 41, 9000, 2 ** 31, BIGGEST):
            self.assertEqual(last(*LINE, ("fewest", r)), [1, 0b10000])
        for r in ANY:
            self.assertEqual(last(("start", 0), ("fewest", r)), [1, 1])

    def test_no_post_is_put_there(self):
        self.assertEqual(ask(*LINE, ("fewest", 10), ("near",), ("post", 1, 0))[5:], [[2, 0b10010], [-6], [-17]])


class With(unittest.TestCase):

    def test_the_schools_and_the_fewest_others(self):
        self.assertEqual(last(*LINE, ("with", 10)), [2, 0b01001])
        self.assertEqual(last(*LINE, ("with", 20)), [2, 0b10001])
        self.assertEqual(last(*LINE, ("with", 0)), [5, 0b11111])
        self.assertEqual(last(*LINE, ("school", 4), ("with", 20)), [2, 0b10100])
        self.assertEqual(last(*LINE, ("school", 2), ("with", 10)), [3, 0b10110])

    def test_of_sets_alike_the_first_leaves_out_the_least_number(self):
        # With 0's, of two pairs far off each is served by either of its two.
        made = [("start", 0), ("village", 0, 100, 0), ("village", 0, 100, 0), ("village", 1, 1, 0),
                ("village", 2, 1, 0)]
        self.assertEqual(last(*made, ("with", 1)), [3, 0b11001])
        # {0, 1, 2}, {0, 1, 5} and {0, 2, 4} do: the last of them leaves out 1.
        made = [("start", 0), ("village", 0, 2, 0), ("village", 1, 1, 0), ("village", 1, 1, 0),
                ("village", 1, 2, 0), ("village", 2, 2, 0)]
        self.assertEqual(last(*made, ("with", 2)), [3, 0b010101])

    def test_any_r(self):
        for r in (40, 9000, 2 ** 31, BIGGEST):
            self.assertEqual(last(*LINE, ("with", r)), [1, 0b00001])
            self.assertEqual(last(*LINE, ("school", 3), ("with", r)), [1, 0b01000])
        for r in ANY:
            self.assertEqual(last(("start", 0), ("with", r)), [1, 1])

    def test_just_what_vw_posts_would_put(self):
        for r in (0, 10, 20, 30, 40):
            told = ask(*LINE, ("with", r), ("posts", r), ("with", r), ("posts", r))[5:]
            self.assertEqual(told, [told[0], told[0], told[0], [-17]])

    def test_no_post_is_put_there(self):
        self.assertEqual(ask(*LINE, ("post", 4, 1), ("with", 10), ("sums",))[6:], [[2, 0b01001], [5, 0, 0, 0b10000]])


class Within(unittest.TestCase):

    def test_farther_than_r(self):
        told = ask(*LINE, ("post", 2, 1), *[("within", r) for r in (0, 9, 10, 19, 20, 21)])
        self.assertEqual(told[6:], [[0, 0b11011], [0, 0b11011], [0, 0b10001], [0, 0b10001], [1, 0], [1, 0]])

    def test_from_every_post(self):
        told = ask(*LINE, ("post", 0, 1), ("post", 4, 1), *[("within", r) for r in (0, 10, 20)])
        self.assertEqual(told[7:], [[0, 0b01110], [0, 0b00100], [1, 0]])

    def test_no_posts(self):
        for r in ANY:
            self.assertEqual(last(*LINE, ("within", r)), [0, 0b11111])
            self.assertEqual(last(("start", 0), ("within", r)), [0, 1])

    def test_any_r(self):
        for r in (40, 41, 9000, 2 ** 31, BIGGEST):
            self.assertEqual(last(*LINE, ("post", 4, 1), ("within", r)), [1, 0])
        self.assertEqual(last(*LINE, *[("post", v, 1) for v in range(5)], ("within", 0)), [1, 0])

    def test_the_fewest_serve_all(self):
        for r in (0, 10, 20, 30, 40):
            self.assertEqual(last(*LINE, ("posts", r), ("within", r)), [1, 0])

    def test_the_school_is_no_post(self):
        self.assertEqual(last(*LINE, ("school", 2), ("post", 4, 1), ("within", 20)), [0, 0b00011])

    def test_nearly_all_ten(self):
        self.assertEqual(last(*PATH, ("post", 9, 1), ("within", 8999)), [0, 1])
        self.assertEqual(last(*PATH, ("post", 0, 1), ("within", 999)), [0, 1022])


class Near(unittest.TestCase):

    def test_which_and_how_far(self):
        self.assertEqual(last(*LINE, ("post", 4, 1), ("near",)), [4, 40])
        self.assertEqual(last(*LINE, ("post", 4, 1), ("post", 2, 1), ("near",)), [2, 20])
        self.assertEqual(last(*LINE, ("school", 3), ("post", 1, 1), ("post", 4, 1), ("near",)), [4, 10])
        self.assertEqual(last(*PATH, ("post", 9, 1), ("near",)), [9, 9000])

    def test_of_like_ones_the_least(self):
        self.assertEqual(last(*LINE, ("school", 2), ("post", 4, 1), ("post", 0, 1), ("near",)), [0, 20])
        self.assertEqual(last(*STAR, ("post", 3, 1), ("post", 1, 1), ("near",)), [1, 5])

    def test_at_the_school(self):
        self.assertEqual(last(*LINE, ("school", 2), *[("post", v, 1) for v in range(5)], ("near",)), [2, 0])

    def test_no_posts(self):
        self.assertEqual(last(*LINE, ("near",)), [-6])
        self.assertEqual(last(*LINE, ("post", 1, 1), ("post", 1, 0), ("near",)), [-6])
        self.assertEqual(last(("start", 0), ("near",)), [-6])

    def test_children_do_not_matter(self):
        self.assertEqual(last(("start", 0), ("village", 0, 3, 0), ("post", 1, 1), ("near",)), [1, 3])


class Look(unittest.TestCase):

    def test_village_0(self):
        self.assertEqual(last(("start", 0), ("look", 0)), [0, 0, 0, 0, 0])
        self.assertEqual(last(("start", 100), ("bus", 0, 1), ("look", 0)), [100, 0, 0, 1, 0])
        self.assertEqual(last(*LINE, ("post", 0, 1), ("look", 0)), [1, 0, 0, 0, 1])

    def test_others(self):
        made = [("start", 8), ("village", 0, 1000, 100), ("village", 1, 2, 7), ("village", 1, 1, 0), ("bus", 2, 1),
                ("post", 3, 1)]
        self.assertEqual(ask(*made, *[("look", v) for v in range(4)])[6:],
                         [[8, 0, 0, 0, 0], [100, 0, 1000, 0, 0], [7, 1, 2, 1, 0], [0, 1, 1, 0, 1]])

    def test_as_it_is_now(self):
        changes = [("many", 3, 50), ("road", 3, 20), ("bus", 3, 1), ("post", 3, 1), ("move", 3, 0)]
        looks = [("look", 3)]
        told = ask(*LINE, *[call for change in changes for call in [change] + looks])[6::2]
        self.assertEqual(told, [[50, 2, 10, 0, 0], [50, 2, 20, 0, 0], [50, 2, 20, 1, 0], [50, 2, 20, 1, 1],
                                [49, 2, 20, 1, 1]])

    def test_refusals(self):
        for v in (5, 10, 31, 32, 2 ** 31, BIGGEST):
            self.assertEqual(last(*LINE, ("look", v)), [-2])


class Sums(unittest.TestCase):

    def test_at_first(self):
        self.assertEqual(last(("start", 0), ("sums",)), [0, 0, 0, 0])
        self.assertEqual(last(("start", 100), ("sums",)), [100, 0, 0, 0])

    def test_all_of_it(self):
        made = LINE + [("many", 4, 9), ("school", 3), ("bus", 0, 1), ("bus", 4, 1), ("post", 1, 1), ("post", 2, 1)]
        self.assertEqual(last(*made, ("sums",)), [13, 3, 0b10001, 0b00110])

    def test_the_most(self):
        made = PATH + [("bus", v, 1) for v in range(10)] + [("post", v, 1) for v in range(10)] + [("school", 9)]
        self.assertEqual(last(*made, ("sums",)), [1000, 9, 1023, 1023])


if __name__ == "__main__":
    unittest.main()
