"""nth, ways, place and over: each way at its place, and how many there are."""

import itertools
import unittest

from helper import (
    TOP, arc, ask, ask_of, begin, close, cut, full_net, last, made, net, next_way, nth, over, pairs_of, place, search,
    some_net, steps_of, told, ways, ways_by_the_words,
)

NOT_THERE = [(0, 3), (3, 0), (3, 3), (0, TOP), (TOP, 0), (TOP, TOP), (0, 8), (2 ** 32, 0)]


class Nth(unittest.TestCase):
    laid = [begin(3), arc(0, 1, 5), arc(1, 2, 6), arc(0, 2, 20)]

    def test_edges_of_k(self):
        self.assertEqual(
            ask(*self.laid, nth(0, 2, 0), nth(0, 2, 1), nth(0, 2, 2), nth(0, 2, 3), nth(0, 2, TOP))[4:],
            [[3, 11, 0, 1, 2], [2, 20, 0, 2], -2, -2, -2],
        )
        self.assertEqual(ask(*self.laid, nth(2, 2, 0), nth(2, 2, 1), nth(2, 2, TOP))[4:], [[1, 0, 2], -2, -2])
        self.assertEqual(ask(nth(0, 0, 0), nth(0, 0, 1), nth(0, 0, TOP)), [[1, 0, 0], -2, -2])

    def test_none(self):
        self.assertEqual(ask(*self.laid, nth(2, 0, 0), nth(2, 0, TOP))[4:], [-2, -2])
        self.assertEqual(ask(*self.laid, close(0), nth(0, 2, 0), nth(0, 0, 0))[5:], [-2, -2])
        self.assertEqual(ask(*self.laid, close(2), nth(0, 2, 0), nth(2, 2, 0))[5:], [-2, -2])
        self.assertEqual(ask(*self.laid, close(1), nth(0, 2, 0), nth(0, 2, 1))[5:], [[2, 20, 0, 2], -2])

    def test_node_that_is_not_there(self):
        for s, t in NOT_THERE:
            for k in (0, 1, TOP):
                with self.subTest(s=s, t=t, k=k):
                    self.assertEqual(last(*self.laid, nth(s, t, k)), -1)

    def test_leaves_a_search(self):
        calls = [
            search(0, 2), nth(0, 2, 0), told(), next_way(), nth(0, 2, 0), nth(0, 2, 2), nth(1, 2, 0), nth(0, 3, 0),
            told(), next_way(), nth(0, 2, 1), next_way(), nth(0, 2, 1), told(),
        ]
        self.assertEqual(
            ask(*self.laid, *calls)[4:],
            [0, [3, 11, 0, 1, 2], 0, [3, 11, 0, 1, 2], [3, 11, 0, 1, 2], -2, [2, 6, 1, 2], -1, 1, [2, 20, 0, 2],
             [2, 20, 0, 2], 0, [2, 20, 0, 2], 2],
        )
        self.assertEqual(ask(*self.laid, nth(0, 2, 0), told(), next_way())[5:], [-3, -3])

    def test_against_every_row_and_what_next_tells(self):
        for seed in range(40):
            n = 1 + seed % 5
            arcs, closed = some_net(n, 1300 + seed, (0, 2, 9, 65535)[seed % 4], 4 + seed % 5)
            laid = made(n, arcs, closed)
            for s, t in pairs_of(n):
                with self.subTest(seed=seed, s=s, t=t):
                    expected = ways_by_the_words(n, arcs, closed, s, t)
                    many = len(expected)
                    found = ask_of(laid, [nth(s, t, k) for k in range(many + 2)])
                    self.assertEqual(found, expected + [-2, -2])
                    found = ask(*laid, search(s, t), *[next_way()] * many)[len(laid) + 1:]
                    self.assertEqual(found, expected)


class Ways(unittest.TestCase):
    def test_to_itself(self):
        self.assertEqual(ask(ways(0, 0), close(0), ways(0, 0), close(0, 0), ways(0, 0)), [1, 0, 0, 0, 1])
        laid = made(3, full_net(3, 1, 9))
        self.assertEqual(ask(*laid, ways(1, 1), close(1), ways(1, 1), ways(2, 2))[len(laid):], [1, 0, 0, 1])

    def test_closed_nodes(self):
        laid = made(4, {(0, 1): 1, (1, 3): 1, (0, 2): 5, (2, 3): 5, (0, 3): 1})
        self.assertEqual(last(*laid, ways(0, 3)), 3)
        for v, many in [(0, 0), (1, 2), (2, 2), (3, 0)]:
            with self.subTest(v=v):
                self.assertEqual(ask(*laid, close(v), ways(0, 3), close(v, 0), ways(0, 3))[-3:], [many, 0, 3])

    def test_no_way(self):
        self.assertEqual(ask(begin(3), ways(0, 2), arc(0, 1, 1), arc(2, 1, 1), ways(0, 2), ways(1, 0))[-2:], [0, 0])

    def test_node_that_is_not_there(self):
        for s, t in NOT_THERE:
            with self.subTest(s=s, t=t):
                self.assertEqual(last(begin(3), ways(s, t)), -1)
                self.assertEqual(last(begin(3), close(0), ways(s, t)), -1)

    def test_all_arcs(self):
        for n, many in [(2, 1), (3, 2), (4, 5), (5, 16), (6, 65), (7, 326), (8, 1957)]:
            with self.subTest(n=n):
                self.assertEqual(last(*made(n, full_net(n, n, 9)), ways(0, n - 1)), many)

    def test_against_every_row(self):
        for seed in range(24):
            n = 1 + seed % 6
            arcs, closed = some_net(n, 1700 + seed, 9, 3 + seed % 5)
            found = ask_of(made(n, arcs, closed), [ways(s, t) for s, t in pairs_of(n)])
            for (s, t), number in zip(pairs_of(n), found):
                with self.subTest(seed=seed, s=s, t=t):
                    self.assertEqual(number, len(ways_by_the_words(n, arcs, closed, s, t)))


class EightNodesWithAllArcs(unittest.TestCase):
    def test_ways_nth_and_place(self):
        for seed, most_length, s, t in [(11, 65535, 0, 7), (12, 3, 7, 0), (13, 0, 4, 2)]:
            arcs = full_net(8, seed, most_length)
            expected = ways_by_the_words(8, arcs, [], s, t)
            self.assertEqual(len(expected), 1957)
            some = [0, 1, 2, 700, 978, 1500, 1955, 1956]
            asked = [ways(s, t), *[nth(s, t, k) for k in some], *[place(*expected[k][2:]) for k in some]]
            asked += [nth(s, t, 1957), nth(s, t, TOP)]
            with self.subTest(seed=seed):
                self.assertEqual(
                    ask_of(made(8, arcs), asked),
                    [1957, *[expected[k] for k in some], *some, -2, -2],
                )

    def test_over(self):
        laid = made(8, full_net(8, 14, 9))
        # Over an arc that leaves s go as many ways as there are from where it leads in a net of the seven others.
        self.assertEqual(
            ask(*laid, over(2, 5, 2, 0), over(2, 5, 0, 5), over(2, 5, 0, 2), over(2, 5, 5, 0), over(2, 5, 2, 5),
                over(2, 5, 5, 2), over(2, 2, 2, 5), over(2, 5, 0, 1), ways(2, 5), cut(0, 1), ways(2, 5))[len(laid):],
            [326, 326, 0, 0, 1, 0, 0, 261, 1957, 0, 1957 - 261],
        )


class Place(unittest.TestCase):
    laid = [begin(4), arc(0, 1, 5), arc(1, 2, 6), arc(0, 2, 11), arc(0, 3, 0), arc(3, 2, 10), arc(2, 0, 1)]

    def answered(self, *calls):
        return last(*self.laid, *calls)

    def test_each_way(self):
        self.assertEqual(
            ask(*self.laid, place(0, 3, 2), place(0, 1, 2), place(0, 2), place(0), place(2), place(2, 0, 1))[7:],
            [0, 1, 2, 0, 0, 0],
        )
        self.assertEqual(ask(place(0), close(0), place(0)), [0, 0, -2])

    def test_moves_with_the_net(self):
        self.assertEqual(
            ask(*self.laid, place(0, 2), arc(0, 2, 10), place(0, 2), place(0, 1, 2), arc(0, 2, 9), place(0, 2),
                close(3), place(0, 2), place(0, 1, 2), cut(0, 2), place(0, 1, 2), place(0, 2))[7:],
            [2, 0, 0, 2, 0, 0, 0, 0, 1, 0, 0, -2],
        )

    def test_empty_row(self):
        self.assertEqual(self.answered(place()), -2)
        self.assertEqual(ask(place(), place(), place(0)), [-2, -2, 0])

    def test_no_ways(self):
        rows = [
            (0, 0), (0, 1, 2, 0), (0, 1, 2, 0, 3), (1, 1), (1, 0), (1, 3), (0, 1, 3), (2, 1), (4,), (0, 4), (4, 0),
            (TOP,), (TOP, 0), (0, TOP), (0, TOP, 2), (TOP, TOP), (2 ** 32, 1), (0, 1, 2 ** 32 + 2), (0, 1, 10),
        ]
        for row in rows:
            with self.subTest(row=row):
                self.assertEqual(self.answered(place(*row)), -2)

    def test_closed_node(self):
        for v in (0, 1, 2):
            with self.subTest(v=v):
                self.assertEqual(self.answered(close(v), place(0, 1, 2)), -2)
                self.assertEqual(self.answered(close(v), close(v, 0), place(0, 1, 2)), 1)
        self.assertEqual(self.answered(close(3), place(0, 1, 2)), 0)

    def test_very_long_row(self):
        pair = [begin(2), arc(0, 1, 1), arc(1, 0, 1)]
        for row in [[0, 1] * 7950, [0] * 15900, [TOP] * 15900, list(range(15900))]:
            with self.subTest(row=row[:3]):
                self.assertEqual(ask(*pair, place(*row), place(1, 0), told()), [0, 0, 0, -2, 0, -3])

    def test_where_the_search_tells_it(self):
        for seed in range(30):
            n = 1 + seed % 5
            arcs, closed = some_net(n, 2100 + seed, (0, 2, 9, 65535)[seed % 4], 4 + seed % 5)
            laid = made(n, arcs, closed)
            for s, t in pairs_of(n):
                many = last(*laid, ways(s, t))
                told_rows = [way[2:] for way in ask(*laid, search(s, t), *[next_way()] * many)[len(laid) + 1:]]
                with self.subTest(seed=seed, s=s, t=t):
                    self.assertEqual(ask_of(laid, [place(*row) for row in told_rows]), list(range(many)))

    def test_every_row_of_small_nets(self):
        rows = [row for many in range(5) for row in itertools.product(range(4), repeat=many)]
        for seed in range(8):
            arcs, closed = some_net(3, 2500 + seed, 5, 4 + seed % 5)
            places = {}
            for s, t in pairs_of(3):
                for number, way in enumerate(ways_by_the_words(3, arcs, closed, s, t)):
                    places[tuple(way[2:])] = number
            found = ask_of(made(3, arcs, closed), [place(*row) for row in rows])
            for row, number in zip(rows, found, strict=True):
                with self.subTest(seed=seed, row=row):
                    self.assertEqual(number, places.get(row, -2))


class Over(unittest.TestCase):
    laid = [begin(5), arc(0, 1, 1), arc(1, 2, 1), arc(0, 2, 9), arc(2, 3, 1), arc(3, 0, 1), arc(2, 0, 4), arc(1, 4, 2)]

    def over(self, *numbers):
        return last(*self.laid, over(*numbers))

    def test_counts(self):
        self.assertEqual(self.over(0, 3, 2, 3), 2)
        self.assertEqual(self.over(0, 3, 0, 1), 1)
        self.assertEqual(self.over(0, 3, 1, 2), 1)
        self.assertEqual(self.over(0, 3, 0, 2), 1)

    def test_right_on_and_not_by_others(self):
        self.assertEqual(ask(*self.laid, cut(0, 2), over(0, 3, 0, 2), over(0, 3, 0, 1))[8:], [0, -2, 1])
        # All ways from 0 to 3 have 0 before 2, and only one of them has the two side by side.
        self.assertEqual(self.over(0, 3, 0, 2), 1)

    def test_arc_that_no_way_goes_over(self):
        for a, b in [(3, 0), (2, 0), (1, 4)]:
            with self.subTest(a=a, b=b):
                self.assertEqual(self.over(0, 3, a, b), 0)

    def test_to_itself(self):
        self.assertEqual(self.over(0, 0, 0, 1), 0)
        self.assertEqual(self.over(0, 0, 3, 0), 0)
        self.assertEqual(last(*self.laid, close(0), over(0, 0, 0, 1)), 0)

    def test_closed_nodes(self):
        self.assertEqual(last(*self.laid, close(1), over(0, 3, 0, 1)), 0)
        self.assertEqual(last(*self.laid, close(1), over(0, 3, 1, 2)), 0)
        self.assertEqual(last(*self.laid, close(1), over(0, 3, 0, 2)), 1)
        self.assertEqual(last(*self.laid, close(0), over(0, 3, 2, 3)), 0)
        self.assertEqual(last(*self.laid, close(3), over(0, 3, 2, 3)), 0)
        self.assertEqual(last(*self.laid, close(1), over(0, 3, 1, 0)), -2)

    def test_no_way(self):
        self.assertEqual(self.over(4, 0, 0, 1), 0)

    def test_arc_that_is_not_there(self):
        for a, b in [(1, 0), (4, 1), (3, 2), (0, 0), (2, 2), (4, 4)]:
            for s, t in [(0, 3), (4, 0), (a, b), (1, 1)]:
                with self.subTest(s=s, t=t, a=a, b=b):
                    self.assertEqual(self.over(s, t, a, b), -2)
        self.assertEqual(last(over(0, 0, 0, 0)), -2)

    def test_node_that_is_not_there(self):
        for wrong in (5, 8, TOP):
            for right in [(0, 3, 0, 1), (0, 3, 1, 0), (0, 3, 1, 1)]:
                for at in range(4):
                    numbers = [*right[:at], wrong, *right[at + 1:]]
                    with self.subTest(numbers=numbers):
                        self.assertEqual(self.over(*numbers), -1)
            self.assertEqual(self.over(wrong, wrong, wrong, wrong), -1)
            self.assertEqual(self.over(0, 3, wrong, wrong), -1)

    def test_against_every_row_and_what_there_is_without_the_arc(self):
        for seed in range(12):
            n = 2 + seed % 4
            arcs, closed = some_net(n, 2900 + seed, 9, 4 + seed % 5)
            laid = made(n, arcs, closed)
            for s, t in pairs_of(n):
                rows = [way[2:] for way in ways_by_the_words(n, arcs, closed, s, t)]
                found = ask_of(laid, [over(s, t, a, b) for a, b in arcs])
                with self.subTest(seed=seed, s=s, t=t):
                    self.assertEqual(found, [len([row for row in rows if step in steps_of(row)]) for step in arcs])
                for (a, b), number in zip(arcs, found):
                    without = ask(*laid, ways(s, t), over(s, t, a, b), cut(a, b), ways(s, t))[len(laid):]
                    with self.subTest(seed=seed, s=s, t=t, a=a, b=b):
                        self.assertEqual(without, [len(rows), number, 0, len(rows) - number])

    def test_asking_changes_nothing(self):
        calls = [net(), ways(0, 3), over(0, 3, 0, 1), nth(0, 3, 0), place(0, 2, 3), over(0, 3, 1, 0), ways(0, 9)]
        found = ask(*self.laid, *calls, *calls)[len(self.laid):]
        self.assertEqual(found[:7], found[7:])


if __name__ == "__main__":
    unittest.main()
