"""begin, arc, cut, close and len: what they answer and what they change."""

import unittest

from helper import TOP, arc, ask, begin, close, cut, dist, last, length_of, search, way


class Beginning(unittest.TestCase):
    """One node, open, no arcs; each call as the very first."""

    def test_each_call_first(self):
        firsts = [
            (begin(1), 0), (begin(8), 0), (begin(0), -1), (begin(9), -1),
            (arc(0, 0, 1), -1), (arc(0, 1, 1), -1), (arc(1, 0, 1), -1),
            (cut(0, 0), -2), (cut(0, 1), -1), (cut(1, 0), -1),
            (close(0, 1), 0), (close(0, 0), 0), (close(1, 1), -1), (close(1, 0), -1),
            (length_of(0, 0), -2), (length_of(0, 1), -1), (length_of(1, 0), -1),
            (dist(0, 0), 0), (dist(0, 1), -1), (dist(1, 0), -1), (dist(1, 1), -1),
            (way(), -2), (way(0), 0), (way(1), -2), (way(0, 0), -2), (way(0, 1), -2),
            (search(0, 0), 0), (search(0, 1), -1), (search(1, 0), -1),
        ]
        for call, number in firsts:
            with self.subTest(call=call):
                self.assertEqual(ask(call), [number])


class Begin(unittest.TestCase):
    def test_how_many_nodes(self):
        for n, number in [(0, -1), (9, -1), (10, -1), (TOP, -1)] + [(n, 0) for n in range(1, 9)]:
            with self.subTest(n=n):
                self.assertEqual(ask(begin(n)), [number])

    def test_nodes_are_0_to_n_less_1(self):
        for n in range(1, 9):
            with self.subTest(n=n):
                self.assertEqual(ask(begin(n), dist(n - 1, n - 1), dist(n, n), way(n - 1), way(n)), [0, 0, -1, 0, -2])

    def test_second_takes_arcs_away_and_opens_all(self):
        calls = [begin(3), arc(0, 1, 5), close(2), close(0), begin(3)]
        self.assertEqual(
            ask(*calls, length_of(0, 1), dist(0, 1), dist(0, 0), dist(2, 2), way(2)),
            [0, 0, 0, 0, 0, -2, -2, 0, 0, 0],
        )

    def test_second_with_fewer_and_more_nodes(self):
        self.assertEqual(
            ask(begin(8), arc(6, 7, 1), begin(2), dist(6, 7), dist(1, 1), begin(8), length_of(6, 7), dist(7, 7)),
            [0, 0, 0, -1, 0, 0, -2, 0],
        )

    def test_refused_changes_nothing(self):
        for n in (0, 9, TOP):
            with self.subTest(n=n):
                calls = [begin(3), arc(0, 1, 5), close(2), begin(n)]
                self.assertEqual(
                    ask(*calls, length_of(0, 1), dist(2, 2), dist(1, 1), dist(3, 3)),
                    [0, 0, 0, -1, 5, -2, 0, -1],
                )


class Arc(unittest.TestCase):
    def test_new_arc_goes_one_way(self):
        self.assertEqual(
            ask(begin(2), arc(0, 1, 7), length_of(0, 1), length_of(1, 0), dist(0, 1), dist(1, 0), way(1, 0)),
            [0, 0, 7, -2, 7, -2, -2],
        )

    def test_both_ways_have_their_own_length(self):
        self.assertEqual(
            ask(begin(2), arc(0, 1, 7), arc(1, 0, 9), length_of(0, 1), length_of(1, 0)),
            [0, 0, 0, 7, 9],
        )

    def test_in_place_of_what_it_had(self):
        self.assertEqual(
            ask(begin(2), arc(0, 1, 7), arc(0, 1, 40), length_of(0, 1), dist(0, 1), arc(0, 1, 3), length_of(0, 1)),
            [0, 0, 0, 40, 40, 0, 3],
        )

    def test_edges_of_the_length(self):
        for length, number, after in [(0, 0, 0), (1, 0, 1), (65535, 0, 65535), (65536, -1, -2), (TOP, -1, -2)]:
            with self.subTest(length=length):
                self.assertEqual(ask(begin(2), arc(0, 1, length), length_of(0, 1)), [0, number, after])

    def test_wrong_nodes(self):
        for a, b in [(1, 1), (0, 2), (2, 0), (0, TOP), (TOP, 0), (TOP, TOP), (2, 2), (8, 1)]:
            with self.subTest(a=a, b=b):
                self.assertEqual(last(begin(2), arc(a, b, 1)), -1)
                self.assertEqual(last(begin(2), arc(a, b, TOP)), -1)

    def test_refused_changes_nothing(self):
        for refused in [arc(0, 1, 65536), arc(0, 1, TOP), arc(0, 0, 1), arc(0, 2, 1), arc(2, 1, 1)]:
            with self.subTest(refused=refused):
                self.assertEqual(
                    ask(begin(2), arc(0, 1, 7), refused, length_of(0, 1), length_of(0, 0), dist(0, 1), begin(3),
                        length_of(0, 2)),
                    [0, 0, -1, 7, -2, 7, 0, -2],
                )

    def test_at_a_closed_node(self):
        self.assertEqual(
            ask(begin(2), close(1), arc(0, 1, 4), length_of(0, 1), dist(0, 1), close(1, 0), dist(0, 1)),
            [0, 0, 0, 4, -2, 0, 4],
        )


class Cut(unittest.TestCase):
    def test_arc_that_is_there(self):
        self.assertEqual(
            ask(begin(3), arc(0, 1, 7), arc(1, 0, 8), arc(0, 2, 9), cut(0, 1), length_of(0, 1), dist(0, 1),
                length_of(1, 0), length_of(0, 2), cut(0, 1), arc(0, 1, 2), length_of(0, 1)),
            [0, 0, 0, 0, 0, -2, -2, 8, 9, -2, 0, 2],
        )

    def test_arc_of_length_0(self):
        self.assertEqual(ask(begin(2), arc(0, 1, 0), cut(0, 1), cut(0, 1)), [0, 0, 0, -2])

    def test_arc_that_is_not_there(self):
        self.assertEqual(
            ask(begin(2), arc(0, 1, 7), cut(1, 0), cut(0, 0), cut(1, 1), length_of(0, 1)),
            [0, 0, -2, -2, -2, 7],
        )

    def test_node_that_is_not_there(self):
        for a, b in [(0, 2), (2, 0), (2, 2), (TOP, 0), (0, TOP), (TOP, TOP)]:
            with self.subTest(a=a, b=b):
                self.assertEqual(ask(begin(2), arc(0, 1, 7), cut(a, b), length_of(0, 1)), [0, 0, -1, 7])

    def test_arc_of_a_closed_node(self):
        self.assertEqual(
            ask(begin(2), arc(0, 1, 7), close(0), cut(0, 1), close(0, 0), length_of(0, 1)),
            [0, 0, 0, 0, 0, -2],
        )


class Close(unittest.TestCase):
    def test_c(self):
        for c, after in [(0, 0), (1, -2), (2, -2), (TOP, -2), (2 ** 32, -2), (2 ** 63, -2)]:
            with self.subTest(c=c):
                self.assertEqual(ask(begin(2), close(1, c), dist(1, 1), dist(0, 0)), [0, 0, after, 0])
                self.assertEqual(ask(begin(2), close(1, 1), close(1, c), way(1)), [0, 0, 0, after])

    def test_node_that_is_not_there(self):
        for v in (2, 8, TOP):
            for c in (0, 1, TOP):
                with self.subTest(v=v, c=c):
                    self.assertEqual(
                        ask(begin(2), close(1), close(v, c), dist(0, 0), dist(1, 1)),
                        [0, 0, -1, 0, -2],
                    )

    def test_twice_and_opened_once(self):
        self.assertEqual(ask(begin(2), close(1), close(1), close(1, 0), dist(1, 1)), [0, 0, 0, 0, 0])

    def test_arcs_stay(self):
        self.assertEqual(
            ask(begin(3), arc(0, 1, 5), arc(1, 2, 6), close(1), length_of(0, 1), length_of(1, 2), dist(0, 2),
                way(0, 1, 2), close(1, 0), dist(0, 2), way(0, 1, 2), length_of(0, 1)),
            [0, 0, 0, 0, 5, 6, -2, -2, 0, 11, 11, 5],
        )


class Len(unittest.TestCase):
    def test_answer_and_refusals(self):
        self.assertEqual(
            ask(begin(3), arc(0, 2, 11), length_of(0, 2), length_of(2, 0), length_of(0, 1), length_of(1, 1)),
            [0, 0, 11, -2, -2, -2],
        )

    def test_an_arc_and_no_sum_of_arcs(self):
        self.assertEqual(
            ask(begin(3), arc(0, 1, 1), arc(1, 2, 1), length_of(0, 2), arc(0, 2, 9), length_of(0, 2)),
            [0, 0, 0, -2, 0, 9],
        )

    def test_node_that_is_not_there(self):
        for a, b in [(0, 3), (3, 0), (3, 3), (0, TOP), (TOP, 0), (TOP, TOP)]:
            with self.subTest(a=a, b=b):
                self.assertEqual(last(begin(3), length_of(a, b)), -1)


if __name__ == "__main__":
    unittest.main()
