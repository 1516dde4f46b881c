"""The program beside the plain model of the document's words, over many lines of calls."""

import random
import unittest

from tests.helper import BIGGEST, TAKES, Plain, ask, large_valleys, small_valleys


def a_village(dice, model):
    """Mostly one that's there."""
    return dice.choice([*model.villages()] * 4 + [len(model.children), 10, BIGGEST])


def a_call(dice, model):
    """A call, its numbers mostly such as can be granted."""
    # Villages come oftener than the others, so that valleys grow full.
    name = dice.choice(sorted(set(TAKES) - {"start"}) + ["village"] * 3)
    far = dice.choice((0, 1, 1, 2, 2, 3, 3, 10, 999, 1000, 1001, BIGGEST))
    many = dice.choice((0, 0, 0, 1, 1, 2, 3, 99, 100, 100, 101, BIGGEST))
    v, w = a_village(dice, model), a_village(dice, model)
    if dice.random() < 0.01:
        return ("start", many)
    numbers = {
        "village": (v, far, many), "many": (v, many), "road": (v, far), "school": (v,), "ways": (v,),
        "bus": (v, dice.choice((0, 1, 1, 2, BIGGEST))), "post": (v, dice.choice((0, 1, 1, 2, BIGGEST))),
        "posts": (dice.choice((0, 1, 2, 3, 5, 11, 1000, 1010, BIGGEST)),),
        "rather": (v, w), "lie": (v, w), "move": (v, w),
    }
    return (name, *numbers.get(name, ()))


def a_line(dice, calls):
    """So many calls, and what the model answers to them."""
    model = Plain()
    line = [("start", dice.choice((0, 1, 2, 100)))]
    told = [model.call(*line[0])]
    for _ in range(calls - 1):
        line.append(a_call(dice, model))
        told.append(model.call(*line[-1]))
    return line, told


class BesideTheModel(unittest.TestCase):

    def same(self, line, expected):
        for call, told, wanted in zip(line, ask(*line), expected, strict=True):
            self.assertEqual(told, wanted, (call, line))

    def test_lines_of_all_calls(self):
        dice = random.Random(58)
        for _ in range(100):
            self.same(*a_line(dice, 150))

    def test_every_question_in_many_valleys(self):
        for made in [*small_valleys()][::5] + [*large_valleys(25, 3)]:
            model = Plain()
            villages = range(len(made))
            asks = [("chosen",), ("unbeaten",), ("best",), ("elect",), ("round",)]
            asks += [("bus", v, 1) for v in villages if v % 2 == 1] + [("round",)]
            asks += [("rather", v, w) for v in villages for w in villages] + [("ways", v) for v in villages]
            asks += [("lie", v, w) for v in villages for w in villages]
            for v in reversed(villages):
                asks += [("school", v), ("round",)]
            line = made + asks
            self.same(line, [model.call(*call) for call in line])

    def test_posts_in_many_valleys(self):
        for made in [*small_valleys()][::9] + [*large_valleys(20, 4)]:
            line = list(made)
            for v in range(len(made)):
                line += [("school", v)] + [("posts", r) for r in (0, 1, 2, 3, 4, 6, 999, 1001, 2000, 9000)]
            model = Plain()
            self.same(line, [model.call(*call) for call in line])


if __name__ == "__main__":
    unittest.main()
