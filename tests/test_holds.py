"""What the document says under "What holds", over many small valleys."""

import itertools
import unittest

from tests.helper import ask, large_valleys, model_after, small_valleys


def valleys():
    """Valleys as calls, with how many villages each has."""
    for made in itertools.chain(small_valleys(), large_valleys(60, 11)):
        yield made, len(made)


def answered(made, calls):
    """What is answered to the calls behind those that make the valley."""
    return ask(*made, *calls)[len(made):]


def many(made):
    """How many children there are."""
    return sum(call[-1] for call in made)


class WhatWins(unittest.TestCase):

    def test_unbeaten_are_just_the_best(self):
        for made, _ in valleys():
            unbeaten, best = answered(made, [("unbeaten",), ("best",)])
            self.assertEqual(unbeaten[1], best[1], made)
            self.assertEqual(unbeaten[0], bin(unbeaten[1]).count("1"), made)

    def test_the_chosen_is_one_of_the_best(self):
        for made, _ in valleys():
            chosen, best = answered(made, [("chosen",), ("best",)])
            if many(made) == 0:
                self.assertEqual(chosen, [-6], made)
            else:
                self.assertEqual(chosen[1], best[0], made)
                self.assertEqual(best[1] >> chosen[0] & 1, 1, made)

    def test_with_an_odd_number_it_beats_each_other(self):
        for made, villages in valleys():
            if many(made) % 2 == 1:
                chosen = answered(made, [("chosen",)])[0][0]
                others = [w for w in range(villages) if w != chosen]
                for mine, others_own in answered(made, [("rather", chosen, w) for w in others]):
                    self.assertGreater(mine, others_own, made)


class FromNowhereShorter(unittest.TestCase):

    def test_the_round_to_all_with_children(self):
        for made, villages in valleys():
            if many(made) == 0:
                continue
            riding = [("bus", v, 1) for v in range(villages) if made[v][-1] > 0]
            chosen = answered(made, [("chosen",)])[0][0]
            rounds = []
            for a in range(villages):
                moved = [("school", a)] if a > 0 else []
                rounds.append(answered(made, riding + moved + [("round",)])[-1][0])
            self.assertEqual(rounds[chosen], min(rounds), made)


class NoGain(unittest.TestCase):

    def test_no_child_gains_by_lying(self):
        for made, villages in valleys():
            lies = [("lie", v, w) for v in range(villages) for w in range(villages)]
            for call, told in zip(lies, answered(made, lies)):
                if made[call[1]][-1] == 0:
                    self.assertEqual(told, [-6], made)
                else:
                    self.assertGreaterEqual(told[1], told[2], (made, call))


class TowardTheSchool(unittest.TestCase):

    def test_who_moves_toward_the_school_leaves_it_where_it_is(self):
        for made, villages in valleys():
            if many(made) == 0:
                continue
            model = model_after(made)
            chosen = answered(made, [("chosen",)])[0][0]
            for v in range(villages):
                for w in model.way(v, chosen)[1:]:
                    moved, now = answered(made, [("move", v, w), ("chosen",)])
                    if moved[0] >= 0:
                        self.assertEqual(now[0], chosen, (made, v, w))


class PostAtTheSchool(unittest.TestCase):

    def test_it_costs_one_post_more_at_most(self):
        for made, villages in valleys():
            model = model_after(made)
            for r in (0, 1, 2, 3, 1000):
                fewest = len(model.fewest(r, []))
                for school in range(villages):
                    moved = [("school", school)] if school > 0 else []
                    count, posts = answered(made, moved + [("posts", r)])[-1]
                    self.assertIn(count - fewest, (0, 1), (made, r, school))
                    self.assertEqual(posts >> school & 1, 1, (made, r, school))


if __name__ == "__main__":
    unittest.main()
