"""What the tests share: calls by name, answers taken apart, many small valleys, and a plain model of the words.

The model follows the document's sentences one by one, by other means than the program does (ways are walked,
the bus is driven, sets are tried by size), so that a fault is not made twice in the same place.
"""

import itertools
import random
from fractions import Fraction

from valleyvotes.valley import answers

NUMBERS = {
    "start": 0, "village": 1, "many": 2, "road": 3, "elect": 4, "school": 5, "bus": 6, "post": 7, "posts": 8,
    "chosen": 9, "unbeaten": 10, "rather": 11, "ways": 12, "best": 13, "lie": 14, "move": 15, "round": 16,
    "from": 17, "stop": 18, "pays": 19, "saves": 20, "mean": 21, "joins": 22, "far": 23, "farthest": 24, "fewest": 25,
    "with": 26, "within": 27, "near": 28, "look": 29, "sums": 30, "back": 31, "again": 32, "state": 33,
}
TAKES = {
    "start": 1, "village": 3, "many": 2, "road": 2, "elect": 0, "school": 1, "bus": 2, "post": 2, "posts": 1,
    "chosen": 0, "unbeaten": 0, "rather": 2, "ways": 1, "best": 0, "lie": 2, "move": 2, "round": 0,
    "from": 1, "stop": 1, "pays": 1, "saves": 1, "mean": 1, "joins": 1, "far": 1, "farthest": 0, "fewest": 1,
    "with": 1, "within": 1, "near": 0, "look": 1, "sums": 0, "back": 0, "again": 0, "state": 0,
}
CHANGES = ("village", "many", "road", "move", "elect", "school", "bus", "post", "posts")
BIGGEST = 4294967295


def flat(calls):
    """The calls, each a tuple of its name and its numbers, as one list of whole numbers."""
    numbers = []
    for call in calls:
        assert len(call) == 1 + TAKES[call[0]], call
        numbers += [NUMBERS[call[0]], *call[1:]]
    # No more is ever handed in.
    assert len(calls) <= 1000 and len(numbers) <= 4100
    return numbers


def apart(told):
    """The answers, one list for each call."""
    parts = []
    place = 0
    while place < len(told):
        count = told[place]
        part = told[place + 1:place + 1 + count]
        assert count >= 1 and len(part) == count, told
        parts.append(part)
        place += 1 + count
    return parts


def ask(*calls):
    """What the program answers to the calls: one list for each."""
    parts = apart(answers(flat(calls)))
    assert len(parts) == len(calls)
    return parts


def last(*calls):
    """What the program answers to the last of the calls."""
    return ask(*calls)[-1]


def tell(villages):
    """Calls whose answers tell a valley of so many villages whole, and change nothing."""
    return [("state",), ("sums",)] + [("look", v) for v in range(villages + 1)]


def probe(villages):
    """Calls whose answers tell a valley of so many villages whole, by what they tell and by what they change."""
    every = range(villages)
    calls = tell(villages) + [("round",), ("chosen",), ("unbeaten",), ("best",)]
    calls += [("bus", v, 1) for v in every] + [("post", v, 1) for v in every]
    # Where the school was is told by the first of these that moves it.
    calls += [("school", v) for v in every]
    calls += [("many", v, 0) for v in every]
    for v in every:
        calls += [("many", v, 1)] + [("ways", w) for w in every] + [("many", v, 0)]
    calls += [("road", v, 1) for v in every]
    return calls + [("village", 0, 1, 0)]


def grown(children, ups, roads):
    """The calls that make a valley: ups and roads are those of villages 1 and on."""
    calls = [("start", children[0])]
    calls += [("village", up, far, many) for up, far, many in zip(ups, roads, children[1:])]
    return calls


def trees(villages):
    """All lists of ups for so many villages (of villages 1 and on)."""
    return itertools.product(*[range(v) for v in range(1, villages)])


def small_valleys():
    """Every tree of up to four villages, with few children and short roads, as calls."""
    for villages, roads, most in ((1, (1,), 3), (2, (1, 3), 3), (3, (1, 2), 2), (4, (1, 3), 1)):
        for ups in trees(villages):
            for lengths in itertools.product(roads, repeat=villages - 1):
                for children in itertools.product(range(most + 1), repeat=villages):
                    yield grown(children, ups, lengths)


def large_valleys(count, seed):
    """Valleys of five to ten villages, always the same for a seed, as calls."""
    dice = random.Random(seed)
    for _ in range(count):
        villages = dice.randint(5, 10)
        ups = [dice.randint(0, v - 1) for v in range(1, villages)]
        roads = [dice.choice((1, 1, 2, 3, 5, 999, 1000)) for _ in ups]
        most = dice.choice((1, 3, 100))
        yield grown([dice.randint(0, most) for _ in range(villages)], ups, roads)


class Plain:
    """The document's words, sentence by sentence, one call at a time."""

    def __init__(self):
        self.children, self.up, self.road, self.walked = [], {}, {}, {}
        self.at, self.riders, self.posted = 0, set(), set()
        self.taken_back, self.can_back = [], []

    def call(self, name, *numbers):
        before = self.standing()
        told = getattr(self, "vw_" + name)(*numbers)
        if name in CHANGES and told[0] >= 0:
            self.can_back.append(before)
            self.can_back = self.can_back[-20:]
            self.taken_back = []
        return told

    # Taking back and doing again.

    def standing(self):
        """All that changes can change, by values that nothing changes."""
        return (tuple(self.children), tuple(self.up.items()), tuple(self.road.items()), self.at,
                frozenset(self.riders), frozenset(self.posted))

    def stand(self, standing):
        self.children, self.up, self.road = list(standing[0]), dict(standing[1]), dict(standing[2])
        self.at, self.riders, self.posted = standing[3], set(standing[4]), set(standing[5])
        self.walked = {}

    def vw_back(self):
        if not self.can_back:
            return [-2]
        self.taken_back.append(self.standing())
        self.stand(self.can_back.pop())
        return [len(self.can_back)]

    def vw_again(self):
        if not self.taken_back:
            return [-2]
        self.can_back.append(self.standing())
        self.stand(self.taken_back.pop())
        return [len(self.taken_back)]

    def vw_state(self):
        return [len(self.children), len(self.can_back), len(self.taken_back)]

    # The valley.

    def villages(self):
        return range(len(self.children))

    def missing(self, *named):
        return any(v not in self.villages() for v in named)

    def beside(self, v):
        return sorted([w for w in self.up if self.up[w] == v] + ([self.up[v]] if v in self.up else []))

    def way(self, v, w):
        """The villages from v to w, both with it."""
        # A way stays what it is while villages are only added, so it's walked but once.
        if (v, w) in self.walked:
            return self.walked[v, w]
        ways = [[v]]
        for walked in ways:
            if walked[-1] == w:
                self.walked[v, w] = walked
                return walked
            ways += [walked + [b] for b in self.beside(walked[-1]) if b not in walked]
        raise AssertionError((v, w))

    def one_road(self, v, w):
        return self.road[v] if self.up.get(v) == w else self.road[w]

    def far(self, v, w):
        walked = self.way(v, w)
        return sum(self.one_road(a, b) for a, b in zip(walked, walked[1:]))

    def all_ways(self, v):
        return sum(self.children[u] * self.far(u, v) for u in self.villages())

    # Votes.

    def rather(self, v, w):
        return sum(self.children[u] for u in self.villages() if self.far(u, v) < self.far(u, w))

    def beats(self, v, w):
        return self.rather(v, w) > self.rather(w, v)

    def chosen(self, children):
        counted = list(children)
        if sum(counted) % 2 == 0:
            counted[0] += 1
        found = []
        for v in self.villages():
            branches = [sum(counted[u] for u in self.villages() if b in self.way(u, v)) for b in self.beside(v)]
            if all(branch <= sum(counted) / 2 for branch in branches):
                found.append(v)
        assert len(found) == 1, found
        return found[0]

    # The bus, the posts.

    def round(self, school, riders):
        """The villages of the round, one after another."""
        used = set()
        for v in riders:
            walked = self.way(v, school)
            used |= {frozenset(step) for step in zip(walked, walked[1:])}

        def drive(v, came_from):
            stops = [v]
            for w in self.beside(v):
                if w != came_from and frozenset((v, w)) in used:
                    stops += drive(w, v) + [v]
            return stops
        return drive(school, None)

    def round_length(self, school, riders):
        stops = self.round(school, riders)
        return sum(self.one_road(a, b) for a, b in zip(stops, stops[1:]))

    def roads_of(self, v):
        """The roads on the way between v and the school."""
        walked = self.way(v, self.at)
        return [frozenset(step) for step in zip(walked, walked[1:])]

    def pays(self, v, riders):
        """What v pays if these ride."""
        paid = Fraction(0)
        for road in self.roads_of(v):
            paid += Fraction(2 * self.one_road(*road), sum(road in self.roads_of(u) for u in riders))
        return paid

    def adds(self, v, before):
        return self.round_length(self.at, {*before, v}) - self.round_length(self.at, before)

    def serve_all(self, posts, r):
        return all(any(self.far(v, p) <= r for p in posts) for v in self.villages())

    def is_first(self, one, other):
        """Whether of two sets alike the one comes ahead of the other."""
        return min(set(one) ^ set(other)) in other

    def fewest(self, r, needed):
        """The needed villages, and of the others the fewest, that serve all."""
        others = [v for v in self.villages() if v not in needed]
        for count in range(len(others) + 1):
            found = None
            for picked in itertools.combinations(others, count):
                posts = set(picked) | set(needed)
                if self.serve_all(posts, r) and (found is None or self.is_first(posts, found)):
                    found = posts
            if found is not None:
                return found
        raise AssertionError(r)

    def bits(self, group):
        return sum(2 ** v for v in group)

    # The calls.

    def vw_start(self, m):
        if m > 100:
            return [-22]
        self.__init__()
        self.children = [m]
        return [0]

    def vw_village(self, up, far, m):
        if self.missing(up):
            return [-2]
        if not 1 <= far <= 1000 or m > 100:
            return [-22]
        if len(self.children) == 10:
            return [-28]
        self.children.append(m)
        v = len(self.children) - 1
        self.up[v], self.road[v] = up, far
        return [v]

    def vw_many(self, v, n):
        if self.missing(v):
            return [-2]
        if n > 100:
            return [-22]
        before, self.children[v] = self.children[v], n
        return [before]

    def vw_road(self, v, n):
        if self.missing(v):
            return [-2]
        if not 1 <= n <= 1000:
            return [-22]
        if v == 0:
            return [-33]
        before, self.road[v] = self.road[v], n
        return [before]

    def vw_move(self, v, w):
        if self.missing(v, w):
            return [-2]
        if v == w:
            return [-22]
        if self.children[v] == 0:
            return [-6]
        if self.children[w] == 100:
            return [-28]
        self.children[v] -= 1
        self.children[w] += 1
        return [self.children[v], self.children[w]]

    def vw_elect(self):
        if not any(self.children):
            return [-6]
        if self.chosen(self.children) == self.at:
            return [-17]
        before, self.at = self.at, self.chosen(self.children)
        return [self.at, before]

    def vw_school(self, v):
        if self.missing(v):
            return [-2]
        if v == self.at:
            return [-17]
        before, self.at = self.at, v
        return [before]

    def switch(self, group, v, o):
        if self.missing(v):
            return [-2]
        if o > 1:
            return [-22]
        if (v in group) == bool(o):
            return [-17]
        group ^= {v}
        return [len(group)]

    def vw_bus(self, v, o):
        return self.switch(self.riders, v, o)

    def vw_post(self, v, o):
        return self.switch(self.posted, v, o)

    def vw_posts(self, r):
        posts = self.fewest(r, [self.at])
        if posts == self.posted:
            return [-17]
        self.posted = posts
        return [len(posts), self.bits(posts)]

    def vw_chosen(self):
        if not any(self.children):
            return [-6]
        v = self.chosen(self.children)
        return [v, self.all_ways(v)]

    def vw_unbeaten(self):
        group = [v for v in self.villages() if not any(self.beats(w, v) for w in self.villages())]
        return [len(group), self.bits(group)]

    def vw_rather(self, v, w):
        if self.missing(v, w):
            return [-2]
        return [self.rather(v, w), self.rather(w, v)]

    def vw_ways(self, v):
        return [-2] if self.missing(v) else [self.all_ways(v)]

    def vw_best(self):
        ways = {v: self.all_ways(v) for v in self.villages()}
        least = min(ways.values())
        return [least, self.bits(v for v in ways if ways[v] == least)]

    def vw_lie(self, v, w):
        if self.missing(v, w):
            return [-2]
        if self.children[v] == 0:
            return [-6]
        told = list(self.children)
        told[v] -= 1
        told[w] += 1
        lied = self.chosen(told)
        return [lied, self.far(lied, v), self.far(self.chosen(self.children), v)]

    def vw_round(self):
        return [self.round_length(self.at, self.riders), len(self.riders)]

    def vw_from(self, a):
        return [-2] if self.missing(a) else [self.round_length(a, self.riders)]

    def vw_stop(self, k):
        stops = self.round(self.at, self.riders)
        if k not in range(len(stops)):
            return [-33]
        return [stops[k], sum(self.one_road(a, b) for a, b in zip(stops[:k], stops[1:]))]

    def fraction(self, number):
        return [number.numerator, number.denominator]

    def vw_pays(self, v):
        if self.missing(v):
            return [-2]
        if v not in self.riders:
            return [-16]
        return self.fraction(self.pays(v, self.riders))

    def vw_saves(self, w):
        group = [v for v in range(32) if w & 2 ** v]
        if self.missing(*group):
            return [-22]
        if not set(group) <= self.riders:
            return [-16]
        return self.fraction(self.round_length(self.at, group) - sum(self.pays(v, self.riders) for v in group))

    def vw_mean(self, v):
        if self.missing(v):
            return [-2]
        if v not in self.riders:
            return [-16]
        if len(self.riders) > 5:
            return [-28]
        orders = [*itertools.permutations(self.riders)]
        return [sum(self.adds(v, order[:order.index(v)]) for order in orders), len(orders)]

    def vw_joins(self, v):
        if self.missing(v):
            return [-2]
        if v in self.riders:
            return [-17]
        paid = 2520 * self.pays(v, self.riders | {v})
        assert paid.denominator == 1
        return [self.adds(v, self.riders), paid.numerator]

    def vw_far(self, v):
        return [-2] if self.missing(v) else [self.far(v, self.at)]

    def vw_farthest(self):
        far, v = max([(self.far(v, self.at), -v) for v in self.villages() if self.children[v]], default=(None, 0))
        return [-6] if far is None else [-v, far]

    def vw_fewest(self, r):
        posts = self.fewest(r, [])
        return [len(posts), self.bits(posts)]

    def vw_with(self, r):
        posts = self.fewest(r, [self.at])
        return [len(posts), self.bits(posts)]

    def vw_within(self, r):
        left = [v for v in self.villages() if all(self.far(v, p) > r for p in self.posted)]
        return [0 if left else 1, self.bits(left)]

    def vw_near(self):
        far, v = min([(self.far(v, self.at), v) for v in self.posted], default=(None, 0))
        return [-6] if far is None else [v, far]

    def vw_look(self, v):
        if self.missing(v):
            return [-2]
        return [self.children[v], self.up.get(v, 0), self.road.get(v, 0), int(v in self.riders), int(v in self.posted)]

    def vw_sums(self):
        return [sum(self.children), self.at, self.bits(self.riders), self.bits(self.posted)]


def model_after(calls):
    """The model behind the calls."""
    model = Plain()
    for call in calls:
        model.call(*call)
    return model
