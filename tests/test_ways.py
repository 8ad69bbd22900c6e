"""dist, way and search: what they answer, also against every row there is."""

import itertools
import unittest

from helper import (
    TOP, arc, ask, begin, close, cut, dist, full_net, last, length_by_the_words, length_of, made, pairs_of,
    rows_between, search, some_net, way,
)


def shortest_by_the_words(n, arcs, closed, s, t):
    lengths = [length_by_the_words(arcs, closed, row) for row in rows_between(n, s, t)]
    return min((length for length in lengths if length >= 0), default=-2)


class Dist(unittest.TestCase):
    def test_to_itself(self):
        self.assertEqual(
            ask(begin(2), dist(1, 1), arc(0, 1, 3), arc(1, 0, 4), dist(1, 1), close(1), dist(1, 1), dist(0, 0)),
            [0, 0, 0, 0, 0, 0, -2, 0],
        )

    def test_fewer_arcs_but_longer(self):
        calls = [begin(4), arc(0, 3, 10), arc(0, 1, 3), arc(1, 2, 3), arc(2, 3, 3)]
        self.assertEqual(ask(*calls, dist(0, 3), cut(1, 2), dist(0, 3))[5:], [9, 0, 10])

    def test_more_arcs_but_longer(self):
        self.assertEqual(last(begin(3), arc(0, 1, 5), arc(1, 2, 5), arc(0, 2, 9), dist(0, 2)), 9)

    def test_none(self):
        self.assertEqual(
            ask(begin(3), arc(0, 1, 5), arc(2, 1, 5), dist(0, 2), dist(1, 0), dist(1, 2))[3:],
            [-2, -2, -2],
        )

    def test_arcs_of_length_0(self):
        self.assertEqual(
            ask(begin(4), arc(0, 1, 0), arc(1, 2, 0), arc(2, 0, 0), arc(0, 2, 1), arc(2, 3, 0), dist(0, 2),
                dist(0, 3), dist(3, 0), dist(0, 0))[6:],
            [0, 0, -2, 0],
        )

    def test_closed_nodes(self):
        net = [begin(4), arc(0, 1, 1), arc(1, 3, 1), arc(0, 2, 5), arc(2, 3, 5)]
        self.assertEqual(last(*net, dist(0, 3)), 2)
        self.assertEqual(last(*net, close(1), dist(0, 3)), 10)
        self.assertEqual(last(*net, close(1), close(2), dist(0, 3)), -2)
        self.assertEqual(last(*net, close(0), dist(0, 3)), -2)
        self.assertEqual(last(*net, close(3), dist(0, 3)), -2)
        self.assertEqual(last(*net, close(3), dist(0, 1)), 1)
        self.assertEqual(last(*net, close(1), close(1, 0), dist(0, 3)), 2)

    def test_node_that_is_not_there(self):
        for s, t in [(0, 3), (3, 0), (3, 3), (0, TOP), (TOP, 0), (TOP, TOP)]:
            with self.subTest(s=s, t=t):
                self.assertEqual(last(begin(3), dist(s, t)), -1)
                self.assertEqual(last(begin(3), close(0), dist(s, t)), -1)

    def test_longest_lengths(self):
        steps = [arc(v, v + 1, 65535) for v in range(7)]
        self.assertEqual(last(begin(8), *steps, dist(0, 7)), 7 * 65535)
        self.assertEqual(last(begin(8), *reversed(steps), dist(0, 7)), 7 * 65535)

    def test_eight_nodes_with_all_arcs(self):
        for seed, most_length in [(1, 65535), (2, 9), (3, 1)]:
            arcs = full_net(8, seed, most_length)
            self.assertEqual(len(arcs), 56)
            calls = made(8, arcs)
            for s, t in [(0, 7), (7, 0), (3, 4), (5, 5)]:
                with self.subTest(seed=seed, s=s, t=t):
                    self.assertEqual(last(*calls, dist(s, t)), shortest_by_the_words(8, arcs, [], s, t))

    def test_eight_nodes_with_all_arcs_shortest_over_all_nodes(self):
        order = [0, 5, 2, 7, 4, 1, 6, 3]
        arcs = {pair: 65535 for pair in itertools.permutations(range(8), 2)}
        for step in zip(order, order[1:]):
            arcs[step] = 9362
        calls = made(8, arcs)
        self.assertEqual(last(*calls, dist(0, 3)), 7 * 9362)
        self.assertEqual(last(*calls, dist(3, 0)), 65535)
        self.assertEqual(last(*calls, close(7), dist(0, 3)), 65535)

    def test_against_every_row(self):
        for seed in range(60):
            n = 1 + seed % 6
            arcs, closed = some_net(n, 100 + seed, (3, 20, 65535)[seed % 3], 3 + seed % 4)
            calls = made(n, arcs, closed)
            pairs = pairs_of(n)
            found = ask(*calls, *[dist(s, t) for s, t in pairs])[len(calls):]
            for (s, t), number in zip(pairs, found):
                with self.subTest(seed=seed, s=s, t=t):
                    self.assertEqual(number, shortest_by_the_words(n, arcs, closed, s, t))


class Way(unittest.TestCase):
    net = [begin(4), arc(0, 1, 1), arc(1, 2, 20), arc(2, 3, 300), arc(2, 0, 5), arc(0, 3, 0)]

    def answered(self, *calls):
        return last(*self.net, *calls)

    def test_no_numbers(self):
        self.assertEqual(self.answered(way()), -2)
        self.assertEqual(ask(way(), way(), dist(0, 0)), [-2, -2, 0])

    def test_one_number(self):
        self.assertEqual(self.answered(way(3)), 0)
        self.assertEqual(self.answered(close(3), way(3)), -2)
        self.assertEqual(self.answered(way(4)), -2)
        self.assertEqual(self.answered(way(TOP)), -2)

    def test_length(self):
        self.assertEqual(self.answered(way(0, 1)), 1)
        self.assertEqual(self.answered(way(0, 1, 2)), 21)
        self.assertEqual(self.answered(way(0, 1, 2, 3)), 321)
        self.assertEqual(self.answered(way(1, 2, 0, 3)), 25)
        self.assertEqual(self.answered(way(0, 3)), 0)

    def test_length_of_its_own_and_not_of_the_shortest(self):
        self.assertEqual(ask(*self.net, dist(0, 3), way(0, 1, 2, 3))[-2:], [0, 321])

    def test_node_twice(self):
        for row in [(0, 0), (0, 1, 2, 0), (0, 1, 2, 0, 3), (1, 2, 0, 1), (0, 1, 1), (3, 3)]:
            with self.subTest(row=row):
                self.assertEqual(self.answered(way(*row)), -2)

    def test_arc_missing(self):
        for row in [(1, 0), (0, 2), (0, 1, 3), (3, 0, 1), (0, 3, 2)]:
            with self.subTest(row=row):
                self.assertEqual(self.answered(way(*row)), -2)
        self.assertEqual(self.answered(cut(1, 2), way(0, 1, 2, 3)), -2)

    def test_closed_node(self):
        for v in range(4):
            with self.subTest(v=v):
                self.assertEqual(self.answered(close(v), way(0, 1, 2, 3)), -2)
                self.assertEqual(self.answered(close(v), close(v, 0), way(0, 1, 2, 3)), 321)
        self.assertEqual(self.answered(close(3), way(0, 1, 2)), 21)

    def test_numbers_far_above(self):
        for row in [(0, 4), (4, 0), (0, 1, TOP), (TOP, 0, 1), (0, TOP, 1), (TOP, TOP), (0, 2 ** 32 + 1)]:
            with self.subTest(row=row):
                self.assertEqual(self.answered(way(*row)), -2)

    def test_all_eight_nodes(self):
        steps = [arc(v, v + 1, 65535) for v in range(7)] + [arc(7, 0, 1)]
        self.assertEqual(last(begin(8), *steps, way(*range(8))), 7 * 65535)
        self.assertEqual(last(begin(8), *steps, way(*range(8), 0)), -2)
        self.assertEqual(last(begin(8), *steps, way(*range(8), 8)), -2)

    def test_very_long_row(self):
        pair = [begin(2), arc(0, 1, 1), arc(1, 0, 1)]
        for row in [[0, 1] * 7950, [0] * 15900, [TOP] * 15900, list(range(15900))]:
            with self.subTest(row=row[:3]):
                self.assertEqual(ask(*pair, way(*row), dist(0, 1), way(1, 0)), [0, 0, 0, -2, 1, 1])

    def test_every_row_of_small_nets(self):
        rows = [row for many in range(5) for row in itertools.product(range(4), repeat=many)]
        for seed in range(12):
            arcs, closed = some_net(3, 500 + seed, 50, 3 + seed % 5)
            calls = made(3, arcs, closed)
            for first in range(0, len(rows), 80):
                part = rows[first:first + 80]
                found = ask(*calls, *[way(*row) for row in part])[len(calls):]
                for row, number in zip(part, found):
                    right = bool(row) and len(set(row)) == len(row) and 3 not in row
                    with self.subTest(seed=seed, row=row):
                        self.assertEqual(number, length_by_the_words(arcs, closed, row) if right else -2)

    def test_asking_changes_nothing(self):
        self.assertEqual(
            ask(*self.net, way(0, 1, 2), way(0, 2), way(9), way(), way(0, 1, 2), dist(0, 2), length_of(0, 2))[6:],
            [21, -2, -2, -2, 21, 21, -2],
        )


class Search(unittest.TestCase):
    def test_answers(self):
        self.assertEqual(
            ask(begin(3), search(0, 2), search(0, 2), search(1, 1), arc(0, 2, 1), search(0, 2), close(0), search(0, 2)),
            [0, 0, 0, 0, 0, 0, 0, 0],
        )

    def test_node_that_is_not_there(self):
        for s, t in [(0, 3), (3, 0), (3, 3), (0, TOP), (TOP, 0), (TOP, TOP)]:
            with self.subTest(s=s, t=t):
                self.assertEqual(last(begin(3), search(s, t)), -1)

    def test_changes_nothing_of_the_net(self):
        self.assertEqual(
            ask(begin(2), arc(0, 1, 4), search(0, 1), search(0, 2), length_of(0, 1), dist(0, 1), way(0, 1)),
            [0, 0, 0, -1, 4, 4, 4],
        )


if __name__ == "__main__":
    unittest.main()
