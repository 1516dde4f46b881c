"""The program beside the plain model of the document's words, over many lines of calls."""

import random
import unittest

from tests.helper import BIGGEST, CHANGES, TAKES, Plain, ask, large_valleys, small_valleys, tell


def a_village(dice, model):
    """Mostly one that's there."""
    return dice.choice([*model.villages()] * 4 + [len(model.children), 10, BIGGEST])


def a_set(dice, model):
    """Mostly one of villages that ride."""
    riding = sum(2 ** v for v in model.riders)
    return dice.choice((riding, riding & dice.getrandbits(10), riding & dice.getrandbits(10), dice.getrandbits(10),
                        2 ** len(model.children), dice.getrandbits(32)))


def a_call(dice, model):
    """A call, its numbers mostly such as can be granted."""
    # Villages come oftener than the others, so that valleys grow full.
    # So does the bus, so that more than five ride, and the changes, so that more than twenty are made.
    name = dice.choice(sorted(set(TAKES) - {"start"}) + ["village"] * 4 + ["bus"] * 4 + sorted(CHANGES) + ["again"] * 2)
    far = dice.choice((0, 1, 1, 2, 2, 3, 3, 10, 999, 1000, 1001, BIGGEST))
    many = dice.choice((0, 0, 0, 1, 1, 2, 3, 99, 100, 100, 101, BIGGEST))
    v, w = a_village(dice, model), a_village(dice, model)
    if dice.random() < 0.003:
        return ("start", many)
    numbers = {
        "village": (v, far, many), "many": (v, many), "road": (v, far), "school": (v,), "ways": (v,),
        "bus": (v, dice.choice((0, 1, 1, 1, 1, 1, 1, 2, BIGGEST))), "post": (v, dice.choice((0, 1, 1, 2, BIGGEST))),
        "posts": (dice.choice((0, 1, 2, 3, 5, 11, 1000, 1010, BIGGEST)),),
        "rather": (v, w), "lie": (v, w), "move": (v, w), "from": (v,), "stop": (dice.choice((0, 1, 2, 3, 5, 18, 19)),),
        "pays": (v,), "mean": (v,), "joins": (v,), "far": (v,), "look": (v,), "saves": (a_set(dice, model),),
    }
    for asked in ("fewest", "with", "within"):
        numbers[asked] = numbers["posts"]
    return (name, *numbers.get(name, ()))


def a_line(dice, calls):
    """So many calls, and what the model answers to them."""
    model = Plain()
    line = [("start", dice.choice((0, 1, 2, 100)))]
    told = [model.call(*line[0])]
    for _ in range(calls - 1):
        line.append(a_call(dice, model))
        told.append(model.call(*line[-1]))
    return line, told


class BesideTheModel(unittest.TestCase):

    def same(self, line, expected):
        for call, told, wanted in zip(line, ask(*line), expected, strict=True):
            self.assertEqual(told, wanted, (call, line))

    def test_lines_of_all_calls(self):
        dice = random.Random(58)
        for _ in range(100):
            self.same(*a_line(dice, 150))

    def test_every_question_in_many_valleys(self):
        for made in [*small_valleys()][::5] + [*large_valleys(25, 3)]:
            model = Plain()
            villages = range(len(made))
            asks = [("chosen",), ("unbeaten",), ("best",), ("elect",), ("round",)]
            asks += [("bus", v, 1) for v in villages if v % 2 == 1] + [("round",)]
            asks += [("rather", v, w) for v in villages for w in villages] + [("ways", v) for v in villages]
            asks += [("lie", v, w) for v in villages for w in villages]
            for v in reversed(villages):
                asks += [("school", v), ("round",)]
            line = made + asks
            self.same(line, [model.call(*call) for call in line])

    def test_posts_in_many_valleys(self):
        for made in [*small_valleys()][::9] + [*large_valleys(20, 4)]:
            line = list(made)
            for v in range(len(made)):
                line += [("school", v)] + [("posts", r) for r in (0, 1, 2, 3, 4, 6, 999, 1001, 2000, 9000)]
            model = Plain()
            self.same(line, [model.call(*call) for call in line])

    def test_where_posts_reach_in_many_valleys(self):
        for made in [*small_valleys()][::9] + [*large_valleys(12, 5)]:
            villages = range(len(made))
            line = list(made) + [("near",), ("farthest",)]
            for v in villages:
                line += [("school", v), ("farthest",), ("far", 0), ("far", len(made) - 1), ("with", 1), ("with", 1000)]
            for v in reversed(villages):
                line += [("post", v, 1), ("near",), ("within", 0), ("within", 1), ("within", 3), ("within", 1001)]
            line += [("fewest", r) for r in (0, 1, 2, 3, 4, 6, 999, 1001, 2000, 9000)]
            model = Plain()
            self.same(line, [model.call(*call) for call in line])

    def test_shares_in_many_valleys(self):
        dice = random.Random(6)
        for made in [*small_valleys()][::7] + [*large_valleys(40, 6)]:
            villages = range(len(made))
            riders = dice.sample(villages, dice.randint(0, min(5, len(made))))
            line = list(made) + [("school", dice.choice(villages))] + [("bus", v, 1) for v in riders]
            line += [(name, v) for name in ("from", "pays", "mean", "joins") for v in villages]
            line += [("stop", k) for k in range(2 * len(made))]
            sets = [sum(2 ** v for v in riders if v in dice.sample(villages, len(made) // 2)) for _ in range(6)]
            line += [("saves", group) for group in sets]
            model = Plain()
            self.same(line, [model.call(*call) for call in line])

    def test_taking_back_and_doing_again_in_many_lines(self):
        dice = random.Random(7)
        for _ in range(60):
            model = Plain()
            line = [("start", 3)]
            told = [model.call(*line[0])]
            for _ in range(50):
                name = dice.choice(("back", "back", "again", "change", "change", "change"))
                calls = [a_call(dice, model) if name == "change" else (name,)] * dice.choice((1, 1, 2, 6))
                for call in calls + tell(len(model.children)):
                    line.append(call)
                    told.append(model.call(*call))
            self.same(line, told)


if __name__ == "__main__":
    unittest.main()
