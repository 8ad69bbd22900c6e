"""Lists of a hundred calls of all sixteen kinds, against a plain reckoning of the document's words."""

import itertools
import unittest

from ferryways.net import answers
from helper import (
    TOP, ask, begin, full_net, joined, length_by_the_words, made, most_apart_by_the_words, parting_by_the_words, read,
    some_numbers, steps_of, ways_by_the_words,
)

KINDS = "begin arc cut close len dist way search next told nth ways place over apart net".split()


class Plain:
    """The document's words, one method for each call; a refusal is its number alone in a list."""

    def __init__(self):
        self.n, self.arcs, self.closed, self.left, self.many = 1, {}, [], None, 0

    def there(self, *nodes):
        return all(v < self.n for v in nodes)

    def all_ways(self, s, t):
        return ways_by_the_words(self.n, self.arcs, self.closed, s, t)

    def begin(self, n):
        if not 1 <= n <= 8:
            return [-1]
        self.n, self.arcs, self.closed, self.left = n, {}, [], None
        return [0]

    def arc(self, a, b, length):
        if not self.there(a, b) or a == b or length > 65535:
            return [-1]
        self.arcs = {**self.arcs, (a, b): length}
        self.left = None
        return [0]

    def cut(self, a, b):
        if not self.there(a, b):
            return [-1]
        if (a, b) not in self.arcs:
            return [-2]
        self.arcs = {step: length for step, length in self.arcs.items() if step != (a, b)}
        self.left = None
        return [0]

    def close(self, v, c):
        if not self.there(v):
            return [-1]
        self.closed = [u for u in self.closed if u != v] + ([] if c == 0 else [v])
        self.left = None
        return [0]

    def len(self, a, b):
        return [self.arcs.get((a, b), -2) if self.there(a, b) else -1]

    def dist(self, s, t):
        if not self.there(s, t):
            return [-1]
        found = self.all_ways(s, t)
        return [found[0][1] if found else -2]

    def is_way(self, row):
        right = len(row) > 0 and self.there(*row) and len(set(row)) == len(row)
        return right and length_by_the_words(self.arcs, self.closed, row) >= 0

    def way(self, *row):
        return [length_by_the_words(self.arcs, self.closed, row) if self.is_way(row) else -2]

    def search(self, s, t):
        if not self.there(s, t):
            return [-1]
        self.left, self.many = self.all_ways(s, t), 0
        return [0]

    def next(self):
        if self.left is None:
            return [-3]
        if not self.left:
            return [0]
        self.many += 1
        return self.left.pop(0)

    def told(self):
        return [-3 if self.left is None else self.many]

    def nth(self, s, t, k):
        if not self.there(s, t):
            return [-1]
        return dict(enumerate(self.all_ways(s, t))).get(k, [-2])

    def ways(self, s, t):
        return [len(self.all_ways(s, t)) if self.there(s, t) else -1]

    def place(self, *row):
        if not self.is_way(row):
            return [-2]
        return [[tuple(way[2:]) for way in self.all_ways(row[0], row[-1])].index(row)]

    def over(self, s, t, a, b):
        if not self.there(s, t, a, b):
            return [-1]
        if (a, b) not in self.arcs:
            return [-2]
        return [len([way for way in self.all_ways(s, t) if (a, b) in steps_of(way[2:])])]

    def apart(self, s, t):
        if not self.there(s, t) or s == t:
            return [-1]
        rows = [way[2:] for way in self.all_ways(s, t)]
        return [most_apart_by_the_words(rows), *itertools.chain(*parting_by_the_words(rows))]

    def net(self):
        arcs = [(a, b, self.arcs[(a, b)]) for a, b in sorted(self.arcs)]
        return [self.n, *[0 if v in self.closed else 1 for v in range(self.n)], *itertools.chain(*arcs)]


def reckoned(named):
    plain = Plain()
    return [getattr(plain, kind)(*numbers) for kind, numbers in named]


def as_call(kind, numbers):
    rows = [len(numbers)] if kind in ("way", "place") else []
    return [KINDS.index(kind), *rows, *numbers]


class Calls:
    """Calls drawn one after another, the same for one seed; the net is kept small enough to be reckoned plainly."""

    counts = {"begin": 1, "arc": 3, "cut": 2, "close": 2, "nth": 3, "over": 4, "next": 0, "told": 0, "net": 0}
    # Refusals are to be rarer than answers, and the net is to grow before it is begun anew.
    often = {"begin": 1, "arc": 30, "cut": 3, "close": 3, "search": 6, "next": 12}

    def __init__(self, seed):
        self.numbers = some_numbers(seed)
        self.drawn = [kind for kind in KINDS for turn in range(self.often.get(kind, 5))]
        self.n = 1

    def below(self, many):
        return next(self.numbers) * many >> 16

    def node(self):
        return (TOP, self.n, 2 ** 32)[self.below(3)] if self.below(40) == 0 else self.below(self.n)

    def one(self, kind):
        if kind == "begin":
            n = (0, 9, TOP, 1, 2, 3, 4, 5, 5, 5)[self.below(10)]
            self.n = n if 1 <= n <= 8 else self.n
            return kind, [n]
        if kind in ("way", "place"):
            return kind, [self.node() for turn in range(self.below(5))]
        numbers = [self.node() for turn in range(self.counts.get(kind, 2))]
        if kind == "arc":
            numbers[2] = (0, 1, 2, 3, 65535, 65536)[self.below(6)] if self.below(9) == 0 else self.below(4)
        if kind == "close":
            numbers[1] = (0, 0, 0, 1, TOP)[self.below(5)]
        if kind == "nth":
            numbers[2] = TOP if self.below(20) == 0 else self.below(6)
        return kind, numbers

    def a_hundred(self):
        self.n = 5
        named = [("begin", [5])] + [self.one("arc") for turn in range(12)]
        # Each kind stands in each list, whatever is drawn.
        named += [self.one(kind) for kind in KINDS if kind != "begin"]
        while len(named) < 100:
            named.append(self.one(self.drawn[self.below(len(self.drawn))]))
        return named


class HundredCalls(unittest.TestCase):
    def test_against_the_plain_reckoning(self):
        for seed in range(60):
            named = Calls(5000 + seed).a_hundred()
            calls = joined([as_call(kind, numbers) for kind, numbers in named])
            before = list(calls)
            self.assertEqual(len(named), 100)
            self.assertEqual({kind for kind, numbers in named}, set(KINDS))
            given = answers(calls)
            for call, found, expected in zip(named, read(given), reckoned(named), strict=True):
                with self.subTest(seed=seed, call=call):
                    self.assertEqual(found, expected)
            with self.subTest(seed=seed):
                self.assertEqual(calls, before)
                self.assertTrue(all(type(number) is int for number in calls))
                self.assertEqual(answers(calls), given)

    def test_lists_have_answers_and_refusals_of_every_kind(self):
        """The drawn lists are of use only if they meet what each call can answer."""
        met = {kind: set() for kind in KINDS}
        for seed in range(60):
            named = Calls(5000 + seed).a_hundred()
            for (kind, numbers), answer in zip(named, reckoned(named)):
                met[kind].add(min(answer[0], 0))
                if kind == "next" and answer == [0]:
                    met[kind].add("none left")
                if kind == "apart" and answer[0] > 1:
                    met[kind].add("several")
        expected = {
            "begin": {-1}, "arc": {-1}, "cut": {-1, -2}, "close": {-1}, "len": {-1, -2}, "dist": {-1, -2}, "way": {-2},
            "search": {-1}, "next": {-3, "none left"}, "told": {-3}, "nth": {-1, -2}, "ways": {-1}, "place": {-2},
            "over": {-1, -2}, "apart": {-1, "several"}, "net": set(),
        }
        self.assertEqual(met, {kind: {0} | expected[kind] for kind in KINDS})

    def test_refused_calls_change_nothing(self):
        """Without its refused calls a list answers what it answered with them."""
        for seed in range(30):
            named = Calls(6000 + seed).a_hundred()
            calls = [as_call(kind, numbers) for kind, numbers in named]
            found = read(answers(joined(calls)))
            kept = [place for place, answer in enumerate(found) if answer[0] >= 0]
            self.assertLess(len(kept), 100)
            with self.subTest(seed=seed):
                self.assertEqual(
                    read(answers(joined([calls[place] for place in kept]))),
                    [found[place] for place in kept],
                )

    def test_calls_that_ask_change_nothing(self):
        """Without the calls that only ask a list answers what it answered with them."""
        changing = ("begin", "arc", "cut", "close", "search", "next")
        for seed in range(30):
            named = Calls(7000 + seed).a_hundred()
            calls = [as_call(kind, numbers) for kind, numbers in named]
            found = read(answers(joined(calls)))
            kept = [place for place, call in enumerate(named) if call[0] in changing]
            with self.subTest(seed=seed):
                self.assertEqual(
                    read(answers(joined([calls[place] for place in kept]))),
                    [found[place] for place in kept],
                )

    def test_eight_nodes_with_all_arcs(self):
        arcs = full_net(8, 77, 3)
        laid = made(8, arcs)
        named = [("begin", [8])] + [("arc", [a, b, arcs[(a, b)]]) for a, b in arcs]
        asked = [
            ("search", [3, 6]), ("next", []), ("next", []), ("told", []), ("nth", [3, 6, 1956]), ("nth", [3, 6, 1957]),
            ("ways", [6, 3]), ("place", [3, 0, 1, 2, 4, 5, 7, 6]), ("over", [3, 6, 5, 2]), ("dist", [0, 7]),
            ("next", []), ("close", [4, 1]), ("next", []), ("ways", [3, 6]), ("cut", [3, 6]), ("ways", [3, 6]),
            ("begin", [8]), ("net", []), ("told", []),
        ]
        expected = [answer[0] if len(answer) == 1 else answer for answer in reckoned(named + asked)]
        self.assertEqual(ask(*laid, *[as_call(kind, numbers) for kind, numbers in asked]), expected)


class Nothing(unittest.TestCase):
    def test_kept_from_one_list_to_the_next(self):
        named = Calls(8000).a_hundred()
        calls = joined([as_call(kind, numbers) for kind, numbers in named])
        first = answers(calls)
        answers(joined([begin(8), [3, 0, 1], [7, 0, 1]]))
        self.assertEqual(answers([9]), [3, -3, 0, 0])
        self.assertEqual(answers([15]), [4, 1, 0, 1, 1])
        self.assertEqual(answers(list(calls)), first)
        # A list cut short answers the beginning of what the whole one does.
        short = joined([as_call(kind, numbers) for kind, numbers in named[:60]])
        self.assertEqual(read(answers(short)), read(first)[:60])


if __name__ == "__main__":
    unittest.main()
