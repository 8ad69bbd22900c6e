"""apart: how many ways have no arc in common, and the first least arcs that part two nodes."""

import itertools
import unittest

from helper import (
    TOP, apart, arc, ask, ask_of, begin, close, cut, full_net, last, made, most_apart_by_the_words, net, pairs_of,
    parting_by_the_words, some_net, ways, ways_by_the_words,
)


def apart_by_the_words(n, arcs, closed, s, t):
    """What apart tells of two nodes, gone through ways and rows of arcs one by one."""
    if s == t:
        return -1
    rows = [way[2:] for way in ways_by_the_words(n, arcs, closed, s, t)]
    if not rows:
        return 0
    return [most_apart_by_the_words(rows), *itertools.chain(*parting_by_the_words(rows))]


def way_back(left, s, t):
    """Arcs from s to t with something left, from the last to the first; None if t isn't reached."""
    came = {s: None}
    reached = [s]
    for a in reached:
        for b in range(8):
            if b not in came and left.get((a, b), 0) > 0:
                came[b] = a
                reached.append(b)
    if t not in came:
        return None
    steps = []
    while t != s:
        steps.append((came[t], t))
        t = came[t]
    return steps


def most_units(arcs, s, t):
    """How much flows from s to t if over each arc there flows one at most: so many ways go apart."""
    left = {step: 1 for step in arcs}
    units = 0
    steps = way_back(left, s, t)
    while steps is not None:
        for a, b in steps:
            left[(a, b)] -= 1
            left[(b, a)] = left.get((b, a), 0) + 1
        units += 1
        steps = way_back(left, s, t)
    return units


class Refused(unittest.TestCase):
    def test_node_that_is_not_there(self):
        for s, t in [(0, 3), (3, 0), (3, 3), (0, TOP), (TOP, 0), (TOP, TOP), (8, 0)]:
            with self.subTest(s=s, t=t):
                self.assertEqual(last(begin(3), apart(s, t)), -1)

    def test_to_itself(self):
        self.assertEqual(ask(apart(0, 0), close(0), apart(0, 0)), [-1, 0, -1])
        laid = made(3, full_net(3, 1, 9))
        self.assertEqual(
            ask(*laid, apart(1, 1), close(1), apart(1, 1), close(1, 0), apart(1, 1))[len(laid):],
            [-1, 0, -1, 0, -1],
        )


class NoWay(unittest.TestCase):
    def test_no_arcs(self):
        self.assertEqual(ask(begin(3), apart(0, 2), arc(2, 0, 1), apart(0, 2)), [0, 0, 0, 0])

    def test_arcs_that_do_not_lead_there(self):
        laid = [begin(4), arc(0, 1, 1), arc(2, 1, 1), arc(2, 3, 1), arc(1, 0, 1), arc(3, 2, 1)]
        self.assertEqual(ask(*laid, apart(0, 3), apart(0, 2), apart(3, 0))[-3:], [0, 0, [1, 1, 0]])

    def test_closed_ends(self):
        laid = made(3, full_net(3, 1, 9))
        for v in (0, 2):
            with self.subTest(v=v):
                self.assertEqual(last(*laid, close(v), apart(0, 2)), 0)
        self.assertEqual(last(*laid, close(0), close(2), apart(0, 2)), 0)

    def test_closed_between(self):
        laid = [begin(3), arc(0, 1, 1), arc(1, 2, 1), close(1)]
        self.assertEqual(ask(*laid, apart(0, 2), close(1, 0), apart(0, 2))[-3:], [0, 0, [1, 0, 1]])


class FirstLeast(unittest.TestCase):
    def told(self, n, arcs, s, t, closed=()):
        return last(*made(n, {step: 1 for step in arcs}, closed), apart(s, t))

    def test_straight(self):
        self.assertEqual(self.told(2, [(0, 1)], 0, 1), [1, 0, 1])
        self.assertEqual(self.told(2, [(0, 1), (1, 0)], 1, 0), [1, 1, 0])
        self.assertEqual(self.told(3, [(0, 2), (0, 1), (1, 2)], 0, 2), [2, 0, 1, 0, 2])
        self.assertEqual(self.told(3, [(2, 0), (2, 1), (1, 0)], 2, 0), [2, 1, 0, 2, 0])

    def test_first_of_a_chain(self):
        self.assertEqual(self.told(4, [(0, 1), (1, 2), (2, 3)], 0, 3), [1, 0, 1])
        self.assertEqual(self.told(4, [(3, 2), (2, 1), (1, 0)], 3, 0), [1, 1, 0])
        self.assertEqual(self.told(4, [(2, 0), (0, 3), (3, 1)], 2, 1), [1, 0, 3])
        self.assertEqual(self.told(4, [(2, 3), (3, 0), (0, 1)], 2, 1), [1, 0, 1])

    def test_one_arc_in_the_middle(self):
        arcs = [(0, 1), (0, 2), (1, 3), (2, 3), (3, 4), (4, 5), (4, 6), (5, 7), (6, 7)]
        self.assertEqual(self.told(8, arcs, 0, 7), [1, 3, 4])

    def test_fewer_though_later(self):
        self.assertEqual(self.told(4, [(0, 1), (0, 2), (1, 2), (2, 3)], 0, 3), [1, 2, 3])

    def test_in_the_order_of_arcs_and_not_of_ways(self):
        arcs = [(3, 2), (2, 0), (3, 1), (1, 0)]
        self.assertEqual(self.told(4, arcs, 3, 0), [2, 1, 0, 2, 0])
        # Each of two ways can be parted by either of its arcs: 0 to 4 is earlier than 5 to 0, 2 to 4 than 5 to 2.
        self.assertEqual(self.told(6, [(5, 0), (0, 4), (5, 2), (2, 4)], 5, 4), [2, 0, 4, 2, 4])
        self.assertEqual(self.told(6, [(1, 5), (5, 4), (1, 0), (0, 4)], 1, 4), [2, 0, 4, 1, 5])

    def test_arcs_beside_the_ways(self):
        arcs = [(0, 1), (1, 0), (0, 3), (2, 1), (1, 2), (2, 0)]
        self.assertEqual(self.told(4, arcs, 0, 2), [1, 0, 1])
        self.assertEqual(self.told(4, arcs, 1, 2), [1, 1, 2])

    def test_arcs_at_closed_nodes(self):
        arcs = [(0, 1), (1, 4), (0, 2), (2, 4), (0, 3), (3, 4)]
        self.assertEqual(self.told(5, arcs, 0, 4), [3, 0, 1, 0, 2, 0, 3])
        self.assertEqual(self.told(5, arcs, 0, 4, [1]), [2, 0, 2, 0, 3])
        self.assertEqual(self.told(5, arcs, 0, 4, [1, 3]), [1, 0, 2])
        self.assertEqual(self.told(5, arcs, 0, 4, [1, 2, 3]), 0)
        self.assertEqual(self.told(5, [(0, 1), (1, 4), (2, 4), (4, 2), (0, 2)], 0, 4, [1]), [1, 0, 2])

    def test_way_that_must_be_given_up(self):
        # The shortest way, 0 1 2 3, has an arc in common with both of the two that go apart.
        laid = [begin(4), arc(0, 1, 0), arc(1, 2, 0), arc(2, 3, 0), arc(0, 2, 9), arc(1, 3, 9)]
        self.assertEqual(last(*laid, apart(0, 3)), [2, 0, 1, 0, 2])
        laid = [
            begin(8), arc(0, 1, 0), arc(1, 4, 0), arc(4, 5, 0), arc(5, 7, 0), arc(0, 2, 9), arc(2, 5, 9), arc(1, 3, 9),
            arc(3, 7, 9), arc(0, 6, 9), arc(6, 4, 9), arc(4, 7, 9),
        ]
        self.assertEqual(last(*laid, apart(0, 7)), [3, 0, 1, 0, 2, 0, 6])
        self.assertEqual(last(*laid, cut(4, 7), apart(0, 7)), [2, 0, 1, 5, 7])

    def test_node_in_common_is_none_in_the_way(self):
        arcs = [(0, 1), (0, 2), (1, 3), (2, 3), (3, 4), (3, 5), (4, 6), (5, 6)]
        self.assertEqual(self.told(7, arcs, 0, 6), [2, 0, 1, 0, 2])

    def test_lengths_do_not_count(self):
        arcs = full_net(5, 3, 65535)
        expected = last(*made(5, arcs), apart(3, 1))
        self.assertEqual(last(*made(5, {step: 0 for step in arcs}), apart(3, 1)), expected)

    def test_order_in_which_arcs_came_does_not_count(self):
        arcs = some_net(6, 21, 9, 5)[0]
        turned = dict(reversed(list(arcs.items())))
        for s, t in pairs_of(6):
            with self.subTest(s=s, t=t):
                self.assertEqual(last(*made(6, arcs), apart(s, t)), last(*made(6, turned), apart(s, t)))


class AgainstEveryRow(unittest.TestCase):
    def check(self, n, arcs, closed):
        found = ask_of(made(n, arcs, closed), [apart(s, t) for s, t in pairs_of(n)])
        for (s, t), told in zip(pairs_of(n), found):
            with self.subTest(n=n, arcs=arcs, closed=closed, s=s, t=t):
                self.assertEqual(told, apart_by_the_words(n, arcs, closed, s, t))

    def test_all_nets_of_three_nodes(self):
        steps = list(itertools.permutations(range(3), 2))
        for many in range(len(steps) + 1):
            for chosen in itertools.combinations(steps, many):
                self.check(3, {step: 1 for step in chosen}, [])

    def test_nets_of_four_and_five_nodes(self):
        for seed in range(60):
            n = 4 + seed % 2
            arcs, closed = some_net(n, 3300 + seed, 9, 2 + seed % 6)
            self.check(n, arcs, closed if seed % 3 == 0 else [])

    def test_nets_of_six_nodes_with_few_arcs(self):
        for seed in range(20):
            self.check(6, some_net(6, 3700 + seed, 9, 2 + seed % 2)[0], [])


class EightNodes(unittest.TestCase):
    def test_all_arcs(self):
        laid = made(8, full_net(8, 3, 9))
        found = ask_of(laid, [apart(s, t) for s, t in pairs_of(8)])
        for (s, t), told in zip(pairs_of(8), found):
            # With all arcs there, only those from s and those to t are as few as seven.
            from_s = [(s, v) for v in range(8) if v != s]
            to_t = [(v, t) for v in range(8) if v != t]
            with self.subTest(s=s, t=t):
                expected = -1 if s == t else [7, *itertools.chain(*min(from_s, to_t))]
                self.assertEqual(told, expected)

    def test_told_arcs_part_and_as_many_go_apart(self):
        for seed in range(12):
            arcs, closed = some_net(8, 4100 + seed, 9, 2 + seed % 4)
            laid = made(8, arcs, closed)
            between = {step for step in arcs if step[0] not in closed and step[1] not in closed}
            found = ask_of(laid, [apart(s, t) for s, t in pairs_of(8)])
            for (s, t), told in zip(pairs_of(8), found):
                if s != t:
                    with self.subTest(seed=seed, s=s, t=t):
                        self.check(laid, between, s, t, told if told else [0])

    def check(self, laid, between, s, t, told):
        parting = list(zip(told[1::2], told[2::2]))
        self.assertEqual(len(parting), told[0])
        self.assertEqual(parting, sorted(set(parting)))
        self.assertLessEqual(set(parting), between)
        self.assertEqual(last(*laid, *[cut(a, b) for a, b in parting], ways(s, t)), 0)
        self.assertEqual(most_units(between, s, t), told[0])


class AskingChangesNothing(unittest.TestCase):
    def test_net_is_as_before(self):
        laid = made(5, some_net(5, 9, 9, 6)[0], [3])
        found = ask(*laid, net(), apart(0, 4), apart(0, 0), apart(0, 5), net(), apart(0, 4))[len(laid):]
        self.assertEqual(found[0], found[4])
        self.assertEqual(found[1], found[5])


if __name__ == "__main__":
    unittest.main()
