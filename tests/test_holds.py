"""What the document says under "What holds", over many small valleys."""

import itertools
import random
import unittest
from fractions import Fraction
from math import factorial, gcd

from tests.helper import ask, large_valleys, model_after, small_valleys, tell


def valleys():
    """Valleys as calls, with how many villages each has."""
    for made in itertools.chain(small_valleys(), large_valleys(60, 11)):
        yield made, len(made)


def answered(made, calls):
    """What is answered to the calls behind those that make the valley."""
    return ask(*made, *calls)[len(made):]


def many(made):
    """How many children there are."""
    return sum(call[-1] for call in made)


class WhatWins(unittest.TestCase):

    def test_unbeaten_are_just_the_best(self):
        for made, _ in valleys():
            unbeaten, best = answered(made, [("unbeaten",), ("best",)])
            self.assertEqual(unbeaten[1], best[1], made)
            self.assertEqual(unbeaten[0], bin(unbeaten[1]).count("1"), made)

    def test_the_chosen_is_one_of_the_best(self):
        for made, _ in valleys():
            chosen, best = answered(made, [("chosen",), ("best",)])
            if many(made) == 0:
                self.assertEqual(chosen, [-6], made)
            else:
                self.assertEqual(chosen[1], best[0], made)
                self.assertEqual(best[1] >> chosen[0] & 1, 1, made)

    def test_with_an_odd_number_it_beats_each_other(self):
        for made, villages in valleys():
            if many(made) % 2 == 1:
                chosen = answered(made, [("chosen",)])[0][0]
                others = [w for w in range(villages) if w != chosen]
                for mine, others_own in answered(made, [("rather", chosen, w) for w in others]):
                    self.assertGreater(mine, others_own, made)


class FromNowhereShorter(unittest.TestCase):

    def test_the_round_to_all_with_children(self):
        for made, villages in valleys():
            if many(made) == 0:
                continue
            riding = [("bus", v, 1) for v in range(villages) if made[v][-1] > 0]
            chosen = answered(made, [("chosen",)])[0][0]
            rounds = [told[0] for told in answered(made + riding, [("from", a) for a in range(villages)])]
            self.assertEqual(rounds[chosen], min(rounds), made)
            self.assertEqual(answered(made + riding, [("elect",), ("round",)])[-1][0], min(rounds), made)


def buses():
    """Valleys with a school and some that ride, as calls, with how many villages there are and who rides."""
    for made in small_valleys():
        # Who pays what has nothing to do with children: of valleys that differ in these alone one is enough.
        if many(made) == 0:
            villages = len(made)
            for school in range(villages):
                for riders in range(2 ** villages):
                    yield drawn(made, school, riders), villages, riders
    dice = random.Random(12)
    for made in large_valleys(40, 13):
        villages = len(made)
        for _ in range(3):
            riders = dice.getrandbits(villages)
            yield drawn(made, dice.randrange(villages), riders), villages, riders


def drawn(made, school, riders):
    """The calls that make a valley, and put the school there, and let these ride."""
    moved = [("school", school)] if school > 0 else []
    return made + moved + [("bus", v, 1) for v in of_set(riders)]


def of_set(group):
    return [v for v in range(10) if group >> v & 1]


def fractions(told):
    return [Fraction(upper, lower) for upper, lower in told]


class NobodyLeaves(unittest.TestCase):

    def test_all_together_pay_just_for_the_round(self):
        for made, _, riders in buses():
            told = answered(made, [("round",)] + [("pays", v) for v in of_set(riders)])
            self.assertEqual(sum(fractions(told[1:])), told[0][0], made)
            self.assertEqual(answered(made, [("saves", riders)]), [[0, 1]], made)

    def test_none_alone_or_together_pay_more_than_a_bus_of_their_own(self):
        for made, villages, riders in buses():
            groups = [group for group in range(2 ** villages) if group & ~riders == 0]
            # A line has room for a thousand calls alone.
            for some in (groups[:512], groups[512:]):
                for saved in answered(made, [("saves", group) for group in some]):
                    self.assertGreaterEqual(saved[0], 0, made)
                    self.assertGreaterEqual(saved[1], 1, made)
                    self.assertEqual(gcd(*saved), 1, made)

    def test_what_they_save_is_the_bus_of_their_own_less_what_they_pay(self):
        dice = random.Random(14)
        for made, _, riders in buses():
            group = riders & dice.getrandbits(10)
            told = answered(made, [("saves", group)] + [("pays", v) for v in of_set(group)])
            leaving = [("bus", v, 0) for v in of_set(riders & ~group)]
            alone = answered(made, leaving + [("round",)])[-1][0]
            self.assertEqual(fractions(told)[0], alone - sum(fractions(told[1:])), made)

    def test_each_pays_what_it_adds_in_the_mean_over_all_orders(self):
        for made, _, riders in buses():
            who = of_set(riders)
            means = answered(made, [("mean", v) for v in who])
            pays = answered(made, [("pays", v) for v in who])
            if len(who) > 5:
                self.assertEqual(means, [[-28]] * len(who), made)
            else:
                self.assertEqual(fractions(means), fractions(pays), made)
                self.assertEqual({orders for _, orders in means} or {1}, {factorial(len(who))}, made)


class WhoJoins(unittest.TestCase):

    def test_nobody_pays_more(self):
        for made, villages, riders in buses():
            who = of_set(riders)
            before = fractions(answered(made, [("pays", v) for v in who]))
            for v in range(villages):
                if v not in who:
                    behind = answered(made, [("bus", v, 1)] + [("pays", u) for u in who])
                    for less, more in zip(fractions(behind[1:]), before, strict=True):
                        self.assertLessEqual(less, more, (made, v))

    def test_what_joining_tells_comes_true(self):
        for made, villages, riders in buses():
            for v in range(villages):
                if riders >> v & 1 == 0:
                    before, joins, _, behind, pays = answered(
                        made, [("round",), ("joins", v), ("bus", v, 1), ("round",), ("pays", v)])
                    self.assertEqual(joins[0], behind[0] - before[0], (made, v))
                    self.assertEqual(Fraction(joins[1], 2520), Fraction(*pays), (made, v))


class NoGain(unittest.TestCase):

    def test_no_child_gains_by_lying(self):
        for made, villages in valleys():
            lies = [("lie", v, w) for v in range(villages) for w in range(villages)]
            for call, told in zip(lies, answered(made, lies)):
                if made[call[1]][-1] == 0:
                    self.assertEqual(told, [-6], made)
                else:
                    self.assertGreaterEqual(told[1], told[2], (made, call))


class TowardTheSchool(unittest.TestCase):

    def test_who_moves_toward_the_school_leaves_it_where_it_is(self):
        for made, villages in valleys():
            if many(made) == 0:
                continue
            model = model_after(made)
            chosen = answered(made, [("chosen",)])[0][0]
            for v in range(villages):
                for w in model.way(v, chosen)[1:]:
                    moved, now = answered(made, [("move", v, w), ("chosen",)])
                    if moved[0] >= 0:
                        self.assertEqual(now[0], chosen, (made, v, w))


class PostAtTheSchool(unittest.TestCase):

    def test_it_costs_one_post_more_at_most(self):
        for made, villages in valleys():
            for r in (0, 1, 2, 3, 1000):
                for school in range(villages):
                    moved = [("school", school)] if school > 0 else []
                    fewest, told, put = answered(made, moved + [("fewest", r), ("with", r), ("posts", r)])[-3:]
                    self.assertIn(told[0] - fewest[0], (0, 1), (made, r, school))
                    self.assertEqual(told[1] >> school & 1, 1, (made, r, school))
                    self.assertEqual(told, put, (made, r, school))


class BackAndAgain(unittest.TestCase):

    def test_all_can_be_taken_back_and_done_again(self):
        for made, villages in valleys():
            changes = [("school", villages - 1), ("bus", 0, 1), ("many", 0, 7), ("posts", 1), ("elect",),
                       ("move", 0, villages - 1), ("village", 0, 4, 4), ("road", villages - 1, 2), ("post", 0, 0)]
            line = made + changes
            done = [told[0] >= 0 for told in ask(*line)[1:]].count(True)
            telling = tell(villages + 1)
            told = answered(line, telling + [("back",)] * done + telling + [("again",)] * done + telling)
            count = len(telling)
            back, again = told[count:count + done], told[2 * count + done:2 * count + 2 * done]
            self.assertEqual(back, [[k] for k in range(done - 1, -1, -1)], line)
            self.assertEqual(again, back, line)
            first = ask(made[0], *telling[1:])[1:]
            self.assertEqual(told[count + done:2 * count + done], [[1, 0, done]] + first, line)
            self.assertEqual(told[-count:], told[:count], line)


if __name__ == "__main__":
    unittest.main()
