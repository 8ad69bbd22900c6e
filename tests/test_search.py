"""next and told: the ways one after another, and what a search outlives."""

import unittest

from helper import (
    TOP, apart, arc, ask, begin, close, cut, dist, full_net, length_of, made, net, next_way, nth, over, pairs_of,
    place, search, some_net, told, way, ways, ways_by_the_words,
)

LAID = [begin(4), arc(0, 1, 5), arc(1, 2, 6), arc(0, 2, 20), arc(1, 3, 1), close(3)]
FIRST = [3, 11, 0, 1, 2]
SECOND = [2, 20, 0, 2]


class WithoutSearch(unittest.TestCase):
    def test_first_call(self):
        self.assertEqual(ask(next_way()), [-3])
        self.assertEqual(ask(told()), [-3])
        self.assertEqual(ask(next_way(), told(), next_way()), [-3, -3, -3])

    def test_behind_a_begin(self):
        self.assertEqual(ask(begin(3), next_way(), told()), [0, -3, -3])
        self.assertEqual(ask(search(0, 0), begin(3), next_way(), told()), [0, 0, -3, -3])

    def test_refused_search_is_none(self):
        self.assertEqual(ask(begin(2), search(0, 2), next_way(), told()), [0, -1, -3, -3])

    def test_refused_next_changes_nothing(self):
        self.assertEqual(
            ask(begin(2), next_way(), told(), search(0, 0), told(), next_way()),
            [0, -3, -3, 0, 0, [1, 0, 0]],
        )


class Told(unittest.TestCase):
    def test_behind_each_next_and_behind_the_last(self):
        calls = [
            search(0, 2), told(), next_way(), told(), told(), next_way(), told(), next_way(), told(), next_way(),
            next_way(), told(),
        ]
        self.assertEqual(ask(*LAID, *calls)[len(LAID):], [0, 0, FIRST, 1, 1, SECOND, 2, 0, 2, 0, 0, 2])

    def test_none_to_tell(self):
        self.assertEqual(
            ask(begin(2), search(0, 1), told(), next_way(), told(), next_way(), told()),
            [0, 0, 0, 0, 0, 0, 0],
        )


class Ended(unittest.TestCase):
    def test_by_what_answers_0(self):
        changes = [
            arc(2, 0, 1), arc(0, 2, 19), arc(0, 2, 20), arc(3, 0, 1), cut(0, 2), cut(1, 3), close(1), close(2, 7),
            close(3), close(3, TOP), close(3, 0), close(0, 0), begin(4), begin(1), begin(8),
        ]
        for change in changes:
            for before in (0, 1, 2, 3):
                with self.subTest(change=change, before=before):
                    calls = [*LAID, search(0, 2), *[next_way()] * before, change, told(), next_way(), told()]
                    self.assertEqual(ask(*calls)[-4:], [0, -3, -3, -3])

    def test_arc_put_back(self):
        self.assertEqual(
            ask(*LAID, search(0, 2), next_way(), cut(0, 2), arc(0, 2, 20), next_way(), search(0, 2), next_way())[-7:],
            [0, FIRST, 0, 0, -3, 0, FIRST],
        )

    def test_goes_on_behind_all_else(self):
        refused = [
            begin(0), begin(9), begin(TOP), arc(0, 0, 1), arc(0, 1, 65536), arc(0, 4, 1), arc(4, 0, 1), cut(2, 0),
            cut(0, 0), cut(0, 4), cut(TOP, 0), close(4), close(TOP, 0), search(0, 4), search(4, 0), search(TOP, TOP),
            length_of(2, 0), length_of(0, 4), dist(0, 3), dist(0, 4), way(), way(0, 3), nth(0, 4, 0), nth(0, 2, 2),
            ways(0, 4), place(), place(0, 3), over(0, 2, 2, 0), over(0, 4, 0, 1), apart(0, 0), apart(0, 4),
        ]
        asked = [
            length_of(0, 1), dist(0, 2), dist(2, 2), way(0, 1, 2), told(), nth(0, 2, 0), nth(0, 2, 1), nth(1, 2, 0),
            ways(0, 2), ways(0, 3), ways(2, 0), place(0, 2), over(0, 2, 0, 1), over(0, 2, 1, 3), apart(0, 2),
            apart(2, 0), net(),
        ]
        for call in refused + asked:
            with self.subTest(call=call):
                calls = [search(0, 2), call, told(), next_way(), call, told()]
                calls += [next_way(), call, next_way(), call, told()]
                found = ask(*LAID, *calls)[len(LAID):]
                self.assertEqual(found[2:4] + found[5:7] + [found[8], found[10]], [0, FIRST, 1, SECOND, 0, 2])
                if call in refused:
                    self.assertLess(found[1], 0)
        calls = [search(0, 2), next_way(), *refused, *asked, told(), next_way(), told()]
        self.assertEqual(ask(*LAID, *calls)[-3:], [1, SECOND, 2])

    def test_another_takes_its_place(self):
        for before in (0, 1, 2, 3):
            with self.subTest(before=before):
                calls = [*LAID, search(0, 2), *[next_way()] * before]
                self.assertEqual(ask(*calls, search(0, 2), told(), next_way(), told())[-4:], [0, 0, FIRST, 1])
                self.assertEqual(
                    ask(*calls, search(1, 2), told(), next_way(), next_way(), told())[-5:],
                    [0, 0, [2, 6, 1, 2], 0, 1],
                )
                self.assertEqual(ask(*calls, search(2, 0), told(), next_way(), told())[-4:], [0, 0, 0, 0])


class Next(unittest.TestCase):
    def all_told(self, laid, s, t, many):
        """What a search tells when it is asked for one more than there should be."""
        return ask(*laid, search(s, t), *[next_way()] * (many + 1), told())[len(laid) + 1:]

    def check(self, laid, s, t, expected):
        self.assertEqual(self.all_told(laid, s, t, len(expected)), [*expected, 0, len(expected)])

    def test_as_long_and_parted_at_the_first_place(self):
        arcs = {(0, 3): 2, (3, 4): 2, (0, 1): 3, (1, 4): 1, (0, 2): 0, (2, 4): 4}
        self.check(made(5, arcs), 0, 4, [[3, 4, 0, 1, 4], [3, 4, 0, 2, 4], [3, 4, 0, 3, 4]])

    def test_as_long_and_parted_at_a_middle_place(self):
        arcs = {(0, 4): 1, (4, 3): 1, (3, 5): 1, (4, 2): 1, (2, 5): 1, (4, 1): 2, (1, 5): 0}
        self.check(made(6, arcs), 0, 5, [[4, 3, 0, 4, 1, 5], [4, 3, 0, 4, 2, 5], [4, 3, 0, 4, 3, 5]])

    def test_as_long_and_parted_at_the_last_but_one_place(self):
        arcs = {(5, 4): 1, (4, 3): 1, (3, 2): 1, (2, 0): 1, (3, 1): 1, (1, 0): 1}
        self.check(made(6, arcs), 5, 0, [[5, 4, 5, 4, 3, 1, 0], [5, 4, 5, 4, 3, 2, 0]])

    def test_as_long_with_more_nodes(self):
        arcs = {(0, 3): 2, (0, 1): 1, (1, 3): 1, (0, 2): 2, (2, 3): 0}
        self.check(made(4, arcs), 0, 3, [[3, 2, 0, 1, 3], [3, 2, 0, 2, 3], [2, 2, 0, 3]])
        arcs = {(3, 0): 2, (3, 1): 1, (1, 0): 1, (3, 2): 2, (2, 0): 0}
        self.check(made(4, arcs), 3, 0, [[2, 2, 3, 0], [3, 2, 3, 1, 0], [3, 2, 3, 2, 0]])

    def test_shorter_with_more_nodes(self):
        arcs = {(0, 3): 10, (0, 1): 3, (1, 2): 3, (2, 3): 3}
        self.check(made(4, arcs), 0, 3, [[4, 9, 0, 1, 2, 3], [2, 10, 0, 3]])

    def test_arcs_of_length_0(self):
        arcs = {pair: 0 for pair in full_net(4, 1, 0)}
        self.check(
            made(4, arcs), 1, 2,
            [[3, 0, 1, 0, 2], [4, 0, 1, 0, 3, 2], [2, 0, 1, 2], [4, 0, 1, 3, 0, 2], [3, 0, 1, 3, 2]],
        )

    def test_to_itself(self):
        arcs = {(0, 1): 0, (1, 0): 0, (1, 2): 1}
        for v in range(3):
            with self.subTest(v=v):
                self.check(made(3, arcs), v, v, [[1, 0, v]])
                self.check(made(3, arcs, [v]), v, v, [])
        self.check([], 0, 0, [[1, 0, 0]])
        self.check([close(0)], 0, 0, [])

    def test_closed_nodes(self):
        arcs = {(0, 1): 1, (1, 3): 1, (0, 2): 5, (2, 3): 5}
        self.check(made(4, arcs), 0, 3, [[3, 2, 0, 1, 3], [3, 10, 0, 2, 3]])
        self.check(made(4, arcs, [0]), 0, 3, [])
        self.check(made(4, arcs, [3]), 0, 3, [])
        self.check(made(4, arcs, [0, 3]), 0, 3, [])
        self.check(made(4, arcs, [1]), 0, 3, [[3, 10, 0, 2, 3]])
        self.check(made(4, arcs, [1, 2]), 0, 3, [])
        self.check([*made(4, arcs, [1, 2]), close(1, 0)], 0, 3, [[3, 2, 0, 1, 3]])

    def test_no_way(self):
        self.check(made(3, {(0, 1): 1, (2, 1): 1}), 0, 2, [])
        self.check(made(3, {(0, 1): 1, (2, 1): 1}), 1, 0, [])

    def test_longest(self):
        arcs = {(v, v + 1): 65535 for v in range(7)}
        self.check(made(8, arcs), 0, 7, [[8, 7 * 65535, *range(8)]])

    def test_search_between_all_pairs_against_every_row(self):
        for seed in range(40):
            n = 1 + seed % 5
            arcs, closed = some_net(n, 900 + seed, (0, 2, 9, 65535)[seed % 4], 4 + seed % 5)
            for s, t in pairs_of(n):
                with self.subTest(seed=seed, s=s, t=t):
                    self.check(made(n, arcs, closed), s, t, ways_by_the_words(n, arcs, closed, s, t))

    def test_six_nodes_with_all_arcs(self):
        for seed, most_length in [(4, 1), (5, 6), (6, 65535)]:
            arcs = full_net(6, seed, most_length)
            with self.subTest(seed=seed):
                expected = ways_by_the_words(6, arcs, [], 2, 0)
                self.assertEqual(len(expected), 65)
                self.check(made(6, arcs), 2, 0, expected)

    def test_first_ways_of_eight_nodes_with_all_arcs(self):
        arcs = full_net(8, 7, 5)
        laid = made(8, arcs)
        many = 100 - len(laid) - 1
        found = ask(*laid, search(6, 1), *[next_way()] * many)[-many:]
        self.assertEqual(found, ways_by_the_words(8, arcs, [], 6, 1)[:many])

    def test_first_told_is_as_long_as_dist(self):
        for seed in range(10):
            arcs, closed = some_net(6, 40 + seed, 30, 5)
            laid = made(6, arcs, closed)
            found = ask(*laid, dist(0, 5), search(0, 5), next_way())[-3:]
            with self.subTest(seed=seed):
                self.assertEqual(found[0], -2 if found[2] == 0 else found[2][1])


if __name__ == "__main__":
    unittest.main()
