"""vw_back, vw_again, vw_state (point 7), and what point 1 says of changes."""

import unittest

from tests.helper import BIGGEST, CHANGES, ask, last, probe, tell

# Four villages with everything in them that a change can change; seven changes behind the start.
MADE = [
    ("start", 3), ("village", 0, 5, 2), ("village", 1, 7, 100), ("village", 1, 2, 0),
    ("school", 3), ("bus", 2, 1), ("post", 3, 1), ("post", 2, 1),
]
# One of each change, each granted behind MADE, alone and behind those ahead of it.
ONE_OF_EACH = [
    ("village", 2, 1000, 9), ("many", 1, 50), ("road", 2, 900), ("move", 2, 0), ("elect",), ("school", 1),
    ("bus", 3, 1), ("post", 2, 0), ("posts", 0),
]
# Each refused behind MADE, each of those calls that can change anything, for each of its reasons.
REFUSED = [
    ("village", 4, 1, 1), ("village", 0, 0, 1), ("village", 0, 1, 101), ("many", 4, 1), ("many", 0, 101),
    ("road", 4, 1), ("road", 1, 1001), ("road", 0, 1), ("move", 4, 0), ("move", 0, 0), ("move", 3, 0), ("move", 0, 2),
    ("school", 4), ("school", 3), ("bus", 4, 1), ("bus", 0, 2), ("bus", 2, 1), ("post", 4, 1), ("post", 0, 2),
    ("post", 3, 1), ("start", 101), ("start", BIGGEST),
]
ASKED = [
    ("chosen",), ("unbeaten",), ("rather", 0, 1), ("ways", 1), ("best",), ("lie", 0, 1), ("round",), ("from", 2),
    ("stop", 1), ("pays", 2), ("saves", 4), ("mean", 2), ("joins", 1), ("far", 1), ("farthest",), ("fewest", 3),
    ("with", 3), ("within", 3), ("near",), ("look", 1), ("sums",), ("state",),
    ("from", 4), ("stop", 100), ("pays", 0), ("saves", 1), ("mean", 0), ("joins", 2), ("look", 4),
]


def behind(made, *calls):
    """What is answered to the calls behind those that make the valley."""
    return ask(*made, *calls)[len(made):]


def standing(*calls):
    """How all stands behind the calls, but for the changes that can be taken back or done again."""
    return behind(calls, *tell(6)[1:], *probe(6)[len(tell(6)):])


class OneChange(unittest.TestCase):

    def test_each_of_the_nine_is_here(self):
        self.assertEqual(sorted(call[0] for call in ONE_OF_EACH), sorted(CHANGES))

    def test_each_is_a_change(self):
        for change in ONE_OF_EACH:
            told = behind(MADE, ("state",), change, ("state",))
            self.assertEqual(told[0], [4, 7, 0])
            self.assertGreaterEqual(told[1][0], 0, change)
            self.assertEqual(told[2][1:], [8, 0], change)

    def test_each_is_taken_back(self):
        for change in ONE_OF_EACH:
            self.assertEqual(behind(MADE, change, ("back",), ("state",))[1:], [[7], [4, 7, 1]], change)
            self.assertEqual(standing(*MADE, change, ("back",)), standing(*MADE), change)
            self.assertNotEqual(standing(*MADE, change), standing(*MADE), change)

    def test_each_is_done_again(self):
        for change in ONE_OF_EACH:
            villages = 5 if change[0] == "village" else 4
            told = behind(MADE, change, ("back",), ("again",), ("state",))
            self.assertEqual(told[2:], [[0], [villages, 8, 0]], change)
            self.assertEqual(standing(*MADE, change, ("back",), ("again",)), standing(*MADE, change), change)

    def test_to_and_fro(self):
        for change in ONE_OF_EACH:
            fro = [("back",), ("again",)] * 3
            self.assertEqual(behind([*MADE, change], *fro), [[7], [0]] * 3)
            self.assertEqual(standing(*MADE, change, *fro, ("back",)), standing(*MADE), change)
            self.assertEqual(standing(*MADE, change, *fro), standing(*MADE, change), change)

    def test_each_drops_what_could_be_done_again(self):
        for change in ONE_OF_EACH:
            told = behind(MADE, ("bus", 1, 1), ("bus", 0, 1), ("back",), ("back",), ("state",), change, ("state",),
                          ("again",))
            self.assertEqual(told[4], [4, 7, 2])
            self.assertEqual(told[6][1:], [8, 0], change)
            self.assertEqual(told[7], [-2], change)

    def test_what_leaves_all_the_same_is_a_change_too(self):
        self.assertEqual(behind(MADE, ("many", 1, 2), ("road", 1, 5), ("state",)), [[2], [5], [4, 9, 0]])


class SeveralChanges(unittest.TestCase):

    def test_any_number_of_them(self):
        line = MADE + ONE_OF_EACH
        changes = len(line) - 1
        self.assertGreaterEqual(min(told[0] for told in ask(*line)), 0)
        for count in range(changes + 1):
            backs = [("back",)] * count
            self.assertEqual(behind(line, *backs), [[changes - k] for k in range(1, count + 1)])
            self.assertEqual(standing(*line, *backs), standing(*line[:len(line) - count]), count)
            for agains in range(count + 1):
                self.assertEqual(behind([*line, *backs], *[("again",)] * agains),
                                 [[count - k] for k in range(1, agains + 1)])
                self.assertEqual(standing(*line, *backs, *[("again",)] * agains),
                                 standing(*line[:len(line) - count + agains]), (count, agains))

    def test_all_back_to_the_start(self):
        told = behind(MADE, *[("back",)] * 7, ("state",), ("sums",), ("look", 0), ("look", 1), ("back",))
        self.assertEqual(told[:7], [[6], [5], [4], [3], [2], [1], [0]])
        self.assertEqual(told[7:], [[1, 0, 7], [3, 0, 0, 0], [3, 0, 0, 0, 0], [-2], [-2]])

    def test_the_last_taken_back_is_done_again_first(self):
        told = ask(("start", 0), ("many", 0, 1), ("many", 0, 2), ("many", 0, 3), ("back",), ("back",), ("look", 0),
                   ("again",), ("look", 0), ("again",), ("look", 0))
        self.assertEqual([part[0] for part in told[4:]], [2, 1, 1, 1, 2, 0, 3])

    def test_a_village_that_is_taken_back_is_not_there(self):
        told = ask(("start", 0), ("village", 0, 4, 7), ("back",), ("look", 1), ("school", 1), ("village", 1, 1, 1),
                   ("village", 0, 5, 8), ("look", 1))
        self.assertEqual(told[1:], [[1], [0], [-2], [-2], [-2], [1], [8, 0, 5, 0, 0]])

    def test_there_is_room_again_in_a_full_valley(self):
        full = [("start", 0)] + [("village", 0, 1, 0)] * 9
        told = behind(full, ("village", 0, 1, 1), ("back",), ("village", 8, 2, 1), ("village", 0, 1, 1), ("look", 9))
        self.assertEqual(told, [[-28], [8], [9], [-28], [1, 8, 2, 0, 0]])

    def test_the_school_goes_back_and_comes_again(self):
        made = [("start", 1), ("village", 0, 4, 3), ("elect",), ("back",), ("sums",), ("again",), ("sums",)]
        self.assertEqual(ask(*made)[2:], [[1, 0], [1], [4, 0, 0, 0], [0], [4, 1, 0, 0]])


class MoreThanTwenty(unittest.TestCase):

    def many(self, count):
        return [("start", 0)] + [("many", 0, k) for k in range(1, count + 1)]

    def test_how_many_can_be_taken_back(self):
        for count in range(31):
            self.assertEqual(last(*self.many(count), ("state",)), [1, min(count, 20), 0])

    def test_just_twenty(self):
        told = behind(self.many(20), *[("back",)] * 21, ("look", 0), ("state",))
        self.assertEqual(told, [[k] for k in range(19, -1, -1)] + [[-2], [0, 0, 0, 0, 0], [1, 0, 20]])

    def test_twenty_one(self):
        told = behind(self.many(21), *[("back",)] * 21, ("look", 0), ("state",))
        self.assertEqual(told, [[k] for k in range(19, -1, -1)] + [[-2], [1, 0, 0, 0, 0], [1, 0, 20]])

    def test_the_last_twenty_of_many(self):
        told = behind(self.many(100), *[("back",)] * 25, ("look", 0))
        self.assertEqual(told, [[k] for k in range(19, -1, -1)] + [[-2]] * 5 + [[80, 0, 0, 0, 0]])

    def test_all_twenty_are_done_again(self):
        told = behind(self.many(25), *[("back",)] * 20, *[("again",)] * 21, ("look", 0), ("state",))[20:]
        self.assertEqual(told, [[k] for k in range(19, -1, -1)] + [[-2], [25, 0, 0, 0, 0], [1, 20, 0]])

    def test_those_that_fell_out_do_not_come_back(self):
        told = behind(self.many(25), *[("back",)] * 20, ("many", 0, 77), ("state",), ("back",), ("back",), ("look", 0))
        self.assertEqual(told[20:], [[5], [1, 1, 0], [0], [-2], [5, 0, 0, 0, 0]])

    def test_twenty_behind_some_that_were_taken_back(self):
        told = behind(self.many(20), *[("back",)] * 3, *[("many", 0, k) for k in range(50, 56)], ("state",),
                      *[("back",)] * 20, ("look", 0))
        self.assertEqual(told[9], [1, 20, 0])
        self.assertEqual(told[10:], [[k] for k in range(19, -1, -1)] + [[3, 0, 0, 0, 0]])

    def test_of_all_kinds(self):
        changes = [("village", v, 3, 1) for v in range(9)] + [("bus", v, 1) for v in range(10)]
        changes += [("post", v, 1) for v in range(10)] + [("school", 9), ("elect",), ("move", 0, 1), ("road", 4, 9)]
        line = [("start", 2)] + changes
        for count in range(21):
            told = behind(line, *[("back",)] * count, *tell(10)[1:])[count:]
            self.assertEqual(told, behind(line[:len(line) - count], *tell(10)[1:]), count)
        self.assertEqual(last(*line, *[("back",)] * 21), [-2])


class InBetween(unittest.TestCase):

    def left(self, between, answer_is_refusal):
        """What can be taken back and done again is left by what stands in between."""
        line = MADE + [("bus", 1, 1), ("post", 1, 1), ("back",), ("back",)]
        rest = [("state",), ("again",), ("state",), ("again",), ("again",)] + [("back",)] * 10 + tell(4)
        told = ask(*line, between, *rest)[len(line):]
        self.assertEqual(told[0][0] < 0, answer_is_refusal, between)
        self.assertEqual(told[1:], ask(*line, *rest)[len(line):], between)
        self.assertEqual(told[1:4], [[4, 7, 2], [1], [4, 8, 1]], between)

    def test_a_refused_change_leaves_what_can_be_done_again(self):
        for refused in REFUSED:
            self.left(refused, True)

    def test_refused_changes_of_valleys_of_their_own(self):
        full = [("start", 0)] + [("village", 0, 1, 0)] * 9 + [("posts", 1), ("bus", 1, 1), ("back",)]
        for refused, answer in ((("village", 0, 1, 0), -28), (("elect",), -6), (("posts", 1), -17)):
            told = behind(full, refused, ("state",), ("again",), ("look", 1), ("state",))
            self.assertEqual(told, [[answer], [10, 10, 1], [0], [0, 0, 1, 1, 0], [10, 11, 0]], refused)
        chosen = [("start", 1), ("bus", 0, 1), ("back",), ("elect",), ("state",), ("again",), ("state",)]
        self.assertEqual(ask(*chosen)[3:], [[-17], [1, 0, 1], [0], [1, 1, 0]])

    def test_asking_leaves_it_too(self):
        for asked in ASKED:
            self.left(asked, ask(*MADE, asked)[-1][0] < 0)

    def test_a_refused_change_does_not_push_one_out(self):
        line = [("start", 0)] + [("many", 0, k) for k in range(1, 21)]
        told = behind(line, *[("many", 0, 101), ("bus", 0, 0), ("start", 200)] * 5, *[("back",)] * 20, ("look", 0))
        self.assertEqual(told[-1], [0, 0, 0, 0, 0])
        self.assertEqual(told[-2], [0])

    def test_none_to_take_back_leaves_all(self):
        told = ask(("start", 4), ("many", 0, 5), ("back",), ("back",), ("state",), ("back",), ("again",), ("look", 0))
        self.assertEqual(told[2:], [[0], [-2], [1, 0, 1], [-2], [0], [5, 0, 0, 0, 0]])

    def test_none_to_be_done_again_leaves_all(self):
        told = ask(("start", 4), ("many", 0, 5), ("again",), ("state",), ("again",), ("back",), ("look", 0), ("again",))
        self.assertEqual(told[2:], [[-2], [1, 1, 0], [-2], [0], [4, 0, 0, 0, 0], [0]])

    def test_a_change_behind_some_that_were_done_again(self):
        told = ask(("start", 0), ("many", 0, 1), ("many", 0, 2), ("many", 0, 3), ("back",), ("back",), ("back",),
                   ("again",), ("many", 0, 9), ("state",), ("again",), ("back",), ("look", 0), ("again",), ("look", 0))
        self.assertEqual(told[7:], [[2], [1], [1, 2, 0], [-2], [1], [1, 0, 0, 0, 0], [0], [9, 0, 0, 0, 0]])


class Begun(unittest.TestCase):

    def test_nothing_at_first(self):
        told = ask(("start", 7), ("state",), ("back",), ("again",), ("state",))
        self.assertEqual(told[1:], [[1, 0, 0], [-2], [-2], [1, 0, 0]])

    def test_a_start_leaves_no_changes(self):
        made = MADE + [("bus", 1, 1), ("bus", 0, 1), ("back",)]
        told = behind(made, ("state",), ("start", 5), ("state",), ("back",), ("again",), ("sums",))
        self.assertEqual(told, [[4, 8, 1], [0], [1, 0, 0], [-2], [-2], [5, 0, 0, 0]])

    def test_it_is_no_change_itself(self):
        told = ask(("start", 1), ("start", 2), ("state",), ("back",), ("look", 0))
        self.assertEqual(told[2:], [[1, 0, 0], [-2], [2, 0, 0, 0, 0]])

    def test_a_refused_start_leaves_all_as_it_was(self):
        made = MADE + [("bus", 1, 1), ("bus", 0, 1), ("back",)]
        rest = [("state",), ("again",), ("state",)] + [("back",)] * 10 + probe(4)
        for m in (101, BIGGEST):
            told = behind(made, ("start", m), *rest)
            self.assertEqual(told[0], [-22])
            self.assertEqual(told[1:], behind(made, *rest))

    def test_a_start_that_was_refused_first(self):
        self.assertEqual(ask(("start", 101), ("start", 3), ("state",), ("back",))[2:], [[1, 0, 0], [-2]])


class State(unittest.TestCase):

    def test_all_along(self):
        calls = [("start", 1), ("village", 0, 1, 1), ("village", 9, 1, 1), ("bus", 1, 1), ("back",), ("back",),
                 ("back",), ("again",), ("bus", 1, 0), ("again",), ("again",), ("bus", 1, 0), ("back",), ("post", 0, 1),
                 ("again",), ("start", 101), ("start", 0)]
        told = ask(*[call for given in calls for call in (given, ("state",))])
        self.assertEqual(told[::2], [[0], [1], [-2], [1], [1], [0], [-2], [1], [-17], [0], [-2], [0], [2], [1], [-2],
                                     [-22], [0]])
        self.assertEqual(told[1::2], [[1, 0, 0], [2, 1, 0], [2, 1, 0], [2, 2, 0], [2, 1, 1], [1, 0, 2], [1, 0, 2],
                                      [2, 1, 1], [2, 1, 1], [2, 2, 0], [2, 2, 0], [2, 3, 0], [2, 2, 1], [2, 3, 0],
                                      [2, 3, 0], [2, 3, 0], [1, 0, 0]])

    def test_how_many_villages(self):
        for count in range(10):
            self.assertEqual(last(("start", 1), *[("village", 0, 1, 1)] * count, ("state",)), [count + 1, count, 0])


if __name__ == "__main__":
    unittest.main()
