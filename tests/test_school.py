"""vw_elect, vw_school, vw_bus, vw_post, vw_posts (point 3)."""

import unittest

from tests.helper import BIGGEST, ask, last

# 0 - 1 - 2 - 3 - 4, each road 10 long.
LINE = [("start", 1)] + [("village", v, 10, 1) for v in range(4)]


class Elect(unittest.TestCase):

    def test_it_is_where_it_is_chosen(self):
        told = ask(*LINE, ("elect",), ("elect",), ("school", 4), ("elect",), ("school", 2))
        self.assertEqual(told[5:], [[2, 0], [-17], [2], [2, 4], [-17]])

    def test_it_is_there_already(self):
        self.assertEqual(last(("start", 1), ("elect",)), [-17])

    def test_no_children(self):
        self.assertEqual(last(("start", 0), ("elect",)), [-6])
        self.assertEqual(last(("start", 0), ("village", 0, 1, 0), ("school", 1), ("elect",)), [-6])

    def test_an_even_number(self):
        made = [("start", 1), ("village", 0, 1, 1), ("school", 1)]
        self.assertEqual(last(*made, ("elect",)), [0, 1])
        self.assertEqual(last(*made, ("many", 1, 2), ("elect",)), [-17])


class School(unittest.TestCase):

    def test_where_it_was(self):
        told = ask(*LINE, ("school", 3), ("school", 0), ("school", 4), ("school", 4))
        self.assertEqual(told[5:], [[0], [3], [0], [-17]])

    def test_refusals(self):
        for v, answer in ((0, -17), (5, -2), (BIGGEST, -2)):
            self.assertEqual(last(*LINE, ("school", v)), [answer])

    def test_the_round_begins_there(self):
        self.assertEqual(last(*LINE, ("bus", 4, 1), ("school", 3), ("round",)), [20, 1])


class Bus(unittest.TestCase):

    def test_how_many_ride(self):
        told = ask(*LINE, ("bus", 4, 1), ("bus", 0, 1), ("bus", 2, 1), ("bus", 4, 0), ("bus", 4, 0), ("bus", 0, 1),
                   ("bus", 4, 1))
        self.assertEqual(told[5:], [[1], [2], [3], [2], [-17], [-17], [3]])

    def test_ten_ride(self):
        made = [("start", 1)] + [("village", 0, 1, 0)] * 9
        told = ask(*made, *[("bus", v, 1) for v in range(10)], *[("bus", v, 0) for v in range(10)])
        self.assertEqual(told[10:], [[k] for k in range(1, 11)] + [[k] for k in range(9, -1, -1)])

    def test_refusals(self):
        for v, o, answer in ((5, 1, -2), (5, 2, -2), (BIGGEST, BIGGEST, -2), (0, 2, -22), (1, BIGGEST, -22),
                             (1, 3, -22), (0, 0, -17)):
            self.assertEqual(last(*LINE, ("bus", v, o)), [answer])

    def test_a_new_village_does_not_ride(self):
        self.assertEqual(ask(("start", 1), ("bus", 0, 1), ("village", 0, 1, 1), ("bus", 1, 0), ("bus", 1, 1))[3:],
                         [[-17], [2]])


class Post(unittest.TestCase):

    def test_how_many_there_are(self):
        told = ask(*LINE, ("post", 4, 1), ("post", 0, 1), ("post", 4, 1), ("post", 4, 0), ("post", 4, 0),
                   ("post", 0, 0))
        self.assertEqual(told[5:], [[1], [2], [-17], [1], [-17], [0]])

    def test_refusals(self):
        for v, o, answer in ((5, 1, -2), (5, 2, -2), (BIGGEST, BIGGEST, -2), (0, 2, -22), (1, BIGGEST, -22),
                             (1, 3, -22), (0, 0, -17)):
            self.assertEqual(last(*LINE, ("post", v, o)), [answer])

    def test_posts_and_riders_are_two_things(self):
        told = ask(*LINE, ("bus", 1, 1), ("post", 1, 1), ("post", 2, 1), ("bus", 2, 0), ("round",))
        self.assertEqual(told[5:], [[1], [1], [2], [-17], [20, 1]])


class Posts(unittest.TestCase):

    def test_in_each_village_if_none_reaches_another(self):
        for r in (0, 1, 9):
            self.assertEqual(last(*LINE, ("posts", r)), [5, 0b11111])

    def test_just_as_far_as_r_is_within(self):
        # With 0's, one in 3 serves 2, 3 and 4.
        self.assertEqual(last(*LINE, ("posts", 10)), [2, 0b01001])
        self.assertEqual(last(*LINE, ("posts", 19)), [2, 0b01001])

    def test_the_school_alone_is_enough(self):
        for r in (40, 41, 9000, 2 ** 31, BIGGEST):
            self.assertEqual(last(*LINE, ("posts", r)), [1, 0b00001])
            self.assertEqual(last(*LINE, ("school", 2), ("posts", r)), [1, 0b00100])
        self.assertEqual(last(*LINE, ("posts", 39)), [2, 0b10001])

    def test_of_sets_alike_the_first_leaves_out_the_least_number(self):
        # 3 and 4 are to be served too: 2, 3 or 4 would do, and only {0, 4} leaves out both 2 and 3.
        self.assertEqual(last(*LINE, ("posts", 20)), [2, 0b10001])
        # A star with the school in 2, which reaches the middle alone; only the middle reaches the two others.
        star = [("start", 0)] + [("village", 0, 1, 0)] * 3 + [("school", 2)]
        self.assertEqual(last(*star, ("posts", 1)), [2, 0b00101])
        self.assertEqual(last(*star, ("posts", 2)), [1, 0b00100])

    def test_of_sets_alike_with_three(self):
        # Two pairs far off, each served by either of its two: 2 and 4 come ahead of 1 and 3.
        made = [("start", 0), ("village", 0, 100, 0), ("village", 1, 1, 0), ("village", 0, 100, 0),
                ("village", 3, 1, 0)]
        self.assertEqual(last(*made, ("posts", 1)), [3, 0b10101])
        # Numbered across: 1 and 3 are a pair, 2 and 4 are one.
        made = [("start", 0), ("village", 0, 100, 0), ("village", 0, 100, 0), ("village", 1, 1, 0),
                ("village", 2, 1, 0)]
        self.assertEqual(last(*made, ("posts", 1)), [3, 0b11001])

    def test_the_least_number_counts_not_the_greatest(self):
        # Behind 0's, far off 1 - 2 - 3 - 4: {2, 3}, {2, 4}, {1, 3}, {1, 4} do (r 1); {2, 4} and {2, 3} leave out 1.
        made = [("start", 0), ("village", 0, 100, 0), ("village", 1, 1, 0), ("village", 2, 1, 0), ("village", 3, 1, 0)]
        self.assertEqual(last(*made, ("posts", 1)), [3, 0b10101])
        # 2 is in the middle of 1, 2, 4; 3 of 3 and 5: {2, 5} comes ahead of {2, 3}.
        made = [("start", 0), ("village", 0, 100, 0), ("village", 1, 1, 0), ("village", 0, 100, 0),
                ("village", 2, 1, 0), ("village", 3, 1, 0)]
        self.assertEqual(last(*made, ("posts", 1)), [3, 0b100101])

    def test_the_greater_number_told_is_not_always_the_first(self):
        # {0, 1, 2}, {0, 1, 5} and {0, 2, 4} do: the last of them leaves out 1, though {0, 1, 5} is told by more.
        made = [("start", 0), ("village", 0, 2, 0), ("village", 1, 1, 0), ("village", 1, 1, 0),
                ("village", 1, 2, 0), ("village", 2, 2, 0)]
        self.assertEqual(last(*made, ("posts", 2)), [3, 0b010101])

    def test_the_posts_are_those_already(self):
        told = ask(*LINE, ("posts", 10), ("posts", 10), ("posts", 19), ("posts", 20), ("posts", 10))
        self.assertEqual(told[5:], [[2, 0b01001], [-17], [-17], [2, 0b10001], [2, 0b01001]])
        told = ask(*LINE, ("post", 0, 1), ("post", 3, 1), ("posts", 10), ("post", 1, 1), ("posts", 10), ("post", 1, 1))
        self.assertEqual(told[7:], [[-17], [3], [2, 0b01001], [3]])

    def test_they_are_nowhere_else(self):
        told = ask(*LINE, ("post", 1, 1), ("post", 2, 1), ("posts", 100), ("post", 1, 1), ("post", 0, 0),
                   ("post", 2, 0))
        self.assertEqual(told[7:], [[1, 0b00001], [2], [1], [-17]])

    def test_one_village(self):
        for r in (0, BIGGEST):
            self.assertEqual(ask(("start", 0), ("posts", r), ("posts", r))[1:], [[1, 1], [-17]])

    def test_a_school_that_does_not_help_costs_a_post(self):
        # The middle alone would do; with the school's in 4 another one is needed, and 2 leaves out 0 and 1.
        made = LINE + [("school", 4)]
        self.assertEqual(last(*made, ("posts", 20)), [2, 0b10100])
        self.assertEqual(last(*made, ("school", 2), ("posts", 20)), [1, 0b00100])


if __name__ == "__main__":
    unittest.main()
