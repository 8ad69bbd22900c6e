"""net: the nodes, and the arcs in order."""

import itertools
import unittest

from helper import (
    TOP, apart, arc, ask, begin, close, cut, dist, full_net, last, length_of, made, net, next_way, nth, over, place,
    search, some_net, told, way, ways,
)


class NetTold(unittest.TestCase):
    def test_at_the_beginning(self):
        self.assertEqual(ask(net()), [[1, 1]])
        self.assertEqual(ask(net(), close(0), net(), close(0, 0), net()), [[1, 1], 0, [1, 0], 0, [1, 1]])

    def test_behind_a_begin(self):
        for n in range(1, 9):
            with self.subTest(n=n):
                self.assertEqual(ask(begin(n), net()), [0, [n, *[1] * n]])
                self.assertEqual(
                    ask(*made(3, {(0, 1): 5, (2, 0): 6}, [1]), net(), begin(n), net())[-3:],
                    [[3, 1, 0, 1, 0, 1, 5, 2, 0, 6], 0, [n, *[1] * n]],
                )

    def test_closed_nodes(self):
        self.assertEqual(
            ask(begin(4), close(2), net(), close(0, TOP), net(), close(2, 0), net(), close(3), net())[2::2],
            [[4, 1, 1, 0, 1], [4, 0, 1, 0, 1], [4, 0, 1, 1, 1], [4, 0, 1, 1, 0]],
        )

    def test_arcs_in_their_order(self):
        arcs = {(2, 1): 7, (0, 2): 65535, (2, 0): 0, (1, 0): 3, (0, 1): 9}
        expected = [3, 1, 1, 1, 0, 1, 9, 0, 2, 65535, 1, 0, 3, 2, 0, 0, 2, 1, 7]
        for order in itertools.permutations(arcs):
            with self.subTest(order=order):
                self.assertEqual(last(*made(3, {step: arcs[step] for step in order}), net()), expected)

    def test_arcs_of_closed_nodes_are_told(self):
        self.assertEqual(
            last(*made(3, {(1, 2): 4, (0, 1): 5, (0, 2): 6}, [1]), net()),
            [3, 1, 0, 1, 0, 1, 5, 0, 2, 6, 1, 2, 4],
        )

    def test_arcs_changed_and_cut(self):
        laid = made(3, {(1, 2): 4, (0, 1): 5, (0, 2): 6})
        self.assertEqual(
            ask(*laid, arc(0, 1, 8), net(), cut(0, 2), net(), arc(0, 2, 1), net())[5::2],
            [
                [3, 1, 1, 1, 0, 1, 8, 0, 2, 6, 1, 2, 4], [3, 1, 1, 1, 0, 1, 8, 1, 2, 4],
                [3, 1, 1, 1, 0, 1, 8, 0, 2, 1, 1, 2, 4],
            ],
        )

    def test_all_arcs_of_eight_nodes(self):
        arcs = full_net(8, 5, 65535)
        turned = dict(reversed(list(arcs.items())))
        expected = [8, *[1] * 8, *itertools.chain(*[(a, b, arcs[(a, b)]) for a, b in sorted(arcs)])]
        self.assertEqual(len(expected), 9 + 3 * 56)
        self.assertEqual(last(*made(8, turned), net()), expected)

    def test_some_nets(self):
        for seed in range(20):
            n = 1 + seed % 8
            arcs, closed = some_net(n, 4500 + seed, 65535, 4)
            expected = [n, *[0 if v in closed else 1 for v in range(n)]]
            for a, b in sorted(arcs):
                expected += [a, b, arcs[(a, b)]]
            with self.subTest(seed=seed):
                self.assertEqual(last(*made(n, arcs, closed), net()), expected)


class RefusedOrAsked(unittest.TestCase):
    """What refuses or only asks leaves the net as it was."""

    def test_net_is_as_before(self):
        laid = made(4, {(0, 1): 5, (1, 2): 6, (0, 2): 20, (2, 3): 1}, [3])
        calls = [
            begin(0), begin(9), begin(TOP), arc(0, 0, 1), arc(0, 1, 65536), arc(0, 4, 1), arc(4, 0, 1), cut(1, 0),
            cut(0, 4), close(4), close(TOP, 0), length_of(0, 1), length_of(3, 2), length_of(4, 0), dist(0, 2),
            dist(0, 3), dist(0, 4), way(0, 1), way(), way(4), search(0, 4), search(0, 2), next_way(), next_way(),
            next_way(), told(), nth(0, 2, 0), nth(0, 2, 2), nth(0, 4, 0), ways(0, 2), ways(4, 0), place(0, 1),
            place(), place(4), over(0, 2, 0, 1), over(0, 2, 1, 0), over(0, 4, 0, 1), apart(0, 2), apart(0, 0),
            apart(0, 4), net(),
        ]
        before = last(*laid, net())
        self.assertEqual(before, [4, 1, 1, 1, 0, 0, 1, 5, 0, 2, 20, 1, 2, 6, 2, 3, 1])
        for call in calls:
            with self.subTest(call=call):
                self.assertEqual(last(*laid, call, net()), before)
        self.assertEqual(last(*laid, *calls, net()), before)


if __name__ == "__main__":
    unittest.main()
