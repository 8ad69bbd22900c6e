"""The form of what is handed in and given back, and that nothing is kept or changed."""

import contextlib
import inspect
import io
import sys
import unittest

from ferryways.net import answers
from helper import (
    TOP, apart, arc, ask, begin, close, cut, dist, joined, length_of, net, next_way, nth, over, place, search, told,
    way, ways,
)


class Unchanging(list):
    """A list that fails when it is changed, if only for a while."""

    def refuse(self, *given):
        raise AssertionError("what is handed in was changed")

    append = extend = insert = pop = remove = clear = sort = reverse = refuse
    __setitem__ = __delitem__ = __iadd__ = __imul__ = refuse


EACH_CALL = [
    begin(3), arc(0, 1, 7), arc(0, 1, 65536), cut(1, 0), cut(0, 1), cut(0, 3), arc(1, 2, 65535), close(0), close(0, 0),
    close(3), length_of(1, 2), length_of(0, 1), length_of(0, 3), dist(1, 2), dist(2, 1), dist(3, 3), way(1, 2),
    way(), way(TOP, TOP), next_way(), told(), search(1, 2), search(0, 3), begin(9), next_way(), told(), next_way(),
    nth(1, 2, 0), nth(1, 2, 1), nth(1, 3, 0), ways(1, 2), ways(2, 1), ways(3, 1), place(1, 2), place(), place(TOP, TOP),
    over(1, 2, 1, 2), over(1, 2, 2, 1), over(1, 2, 1, 3), apart(1, 2), apart(2, 1), apart(1, 1), net(),
]
EACH_ANSWER = [
    0, 0, -1, -2, 0, -1, 0, 0, 0,
    -1, 65535, -2, -1, 65535, -2, -1, 65535,
    -2, -2, -3, -3, 0, -1, -1, [2, 65535, 1, 2], 1, 0,
    [2, 65535, 1, 2], -2, -1, 1, 0, -1, 0, -2, -2,
    1, -2, -1, [1, 1, 2], 0, -1, [3, 1, 1, 1, 1, 2, 65535],
]


class Form(unittest.TestCase):
    def test_written_out(self):
        given = answers([0, 2, 1, 0, 1, 9, 5, 0, 1, 6, 2, 0, 1, 6, 0, 7, 0, 2, 4, 1, 0])
        self.assertEqual(
            given,
            [3, 0, 0, 0, 3, 0, 0, 0, 3, 9, 0, 0, 3, 9, 0, 0, 3, -2, 0, 0, 3, -1, 0, 0, 3, -2, 0, 0],
        )

    def test_further_numbers_written_out(self):
        laid = [0, 3, 1, 0, 1, 9, 1, 1, 2, 0, 1, 0, 2, 9, 3, 1, 0]
        done = [3, 0, 0, 0] * 5
        given = answers(laid + [7, 0, 2, 8, 9, 8, 8, 9])
        self.assertEqual(given[:20], done)
        self.assertEqual(
            given[20:],
            [3, 0, 0, 0, 7, 3, 0, 4, 9, 0, 1, 2, 3, 1, 0, 0, 6, 2, 0, 3, 9, 0, 2, 3, 0, 0, 0, 3, 2, 0, 0],
        )
        given = answers(laid + [10, 0, 2, 1, 10, 0, 2, 2, 11, 0, 2, 12, 2, 0, 2, 12, 0, 13, 0, 2, 0, 1])
        self.assertEqual(
            given[20:],
            [6, 2, 0, 3, 9, 0, 2, 3, -2, 0, 0, 3, 2, 0, 0, 3, 1, 0, 0, 3, -2, 0, 0, 3, 1, 0, 0],
        )
        given = answers(laid + [14, 0, 2, 14, 2, 0, 14, 0, 0, 15])
        self.assertEqual(
            given[20:],
            [7, 2, 0, 4, 0, 1, 0, 2, 3, 0, 0, 0, 3, -1, 0, 0, 15, 3, 0, 12, 1, 1, 1, 0, 1, 9, 0, 2, 9, 1, 2, 0],
        )

    def test_one_call(self):
        self.assertEqual(answers([8]), [3, -3, 0, 0])
        self.assertEqual(answers([9]), [3, -3, 0, 0])
        self.assertEqual(answers([10, 0, 0, 0]), [5, 1, 0, 2, 0, 0])
        self.assertEqual(answers([10, 0, 0, TOP]), [3, -2, 0, 0])
        self.assertEqual(answers([11, 0, 0]), [3, 1, 0, 0])
        self.assertEqual(answers([12, 0]), [3, -2, 0, 0])
        self.assertEqual(answers([12, 1, 0]), [3, 0, 0, 0])
        self.assertEqual(answers([13, 0, 0, 0, 0]), [3, -2, 0, 0])
        self.assertEqual(answers([14, 0, 0]), [3, -1, 0, 0])
        self.assertEqual(answers([15]), [4, 1, 0, 1, 1])
        self.assertEqual(answers([0, 8]), [3, 0, 0, 0])
        self.assertEqual(answers([0, 0]), [3, -1, 0, 0])
        self.assertEqual(answers([2, 0, 0]), [3, -2, 0, 0])
        self.assertEqual(answers([6, 0]), [3, -2, 0, 0])

    def test_every_call_and_refusal(self):
        self.assertEqual(ask(*EACH_CALL), EACH_ANSWER)

    def test_a_list_of_plain_whole_numbers(self):
        given = answers(joined(EACH_CALL))
        self.assertIs(type(given), list)
        self.assertEqual({type(number) for number in given}, {int})

    def test_a_hundred_calls(self):
        calls = [begin(8)]
        while len(calls) < 99:
            calls.append(arc(len(calls) % 7, 7, len(calls)))
        calls.append(length_of(0, 7))
        self.assertEqual(len(calls), 100)
        self.assertEqual(ask(*calls), [0] * 99 + [98])

    def test_a_hundred_calls_with_rows_that_fill_the_list(self):
        calls = [way(*[place % 2] * 157) for place in range(98)]
        calls = [begin(2)] + calls + [way(1)]
        self.assertEqual(len(calls), 100)
        self.assertEqual(ask(*calls), [0] + [-2] * 98 + [0])

    def test_numbers_of_a_row_are_no_calls(self):
        self.assertEqual(ask(way(0, 8), way(6, 2, 0, 0), way(7, 0), dist(0, 0)), [-2, -2, -2, 0])
        self.assertEqual(ask(place(0, 8), place(12, 2, 0, 0), place(7, 0), told()), [-2, -2, -2, -3])

    def test_rows_that_fill_the_list_are_gone_through_by_loops(self):
        calls = joined([begin(2), arc(0, 1, 1), arc(1, 0, 1), way(*[0, 1] * 3900), place(*[1, 0] * 3900), net()])
        self.assertLessEqual(len(calls), 16000)
        usual = sys.getrecursionlimit()
        sys.setrecursionlimit(len(inspect.stack(0)) + 40)
        try:
            given = answers(calls)
        finally:
            sys.setrecursionlimit(usual)
        self.assertEqual(given[12:], [3, -2, 0, 0, 3, -2, 0, 0, 11, 2, 0, 8, 1, 1, 0, 1, 1, 1, 0, 1])


class NothingKept(unittest.TestCase):
    def test_handed_in_is_the_same_afterwards(self):
        calls = joined(EACH_CALL)
        before = list(calls)
        answers(calls)
        self.assertEqual(calls, before)

    def test_handed_in_is_not_changed_for_a_while(self):
        calls = joined(EACH_CALL)
        self.assertEqual(answers(Unchanging(calls)), answers(calls))

    def test_twice_alike(self):
        calls = joined(EACH_CALL)
        first = answers(calls)
        self.assertEqual(answers(calls), first)
        self.assertIsNot(answers(calls), first)

    def test_what_was_given_back_is_free_to_change(self):
        first = answers([0, 2, 4, 0, 1])
        first.clear()
        self.assertEqual(answers([0, 2, 4, 0, 1]), [3, 0, 0, 0, 3, -2, 0, 0])

    def test_new_net_each_time(self):
        ask(begin(8), arc(0, 1, 5), close(0), search(1, 1))
        self.assertEqual(ask(dist(0, 0), dist(1, 1), begin(2), length_of(0, 1)), [0, -1, 0, -2])
        ask(close(0))
        self.assertEqual(ask(dist(0, 0)), [0])
        ask(begin(2), arc(0, 1, 5), search(0, 1))
        self.assertEqual(ask(next_way(), told(), net()), [-3, -3, [1, 1]])

    def test_prints_nothing(self):
        with contextlib.redirect_stdout(io.StringIO()) as out, contextlib.redirect_stderr(io.StringIO()) as errors:
            answers(joined(EACH_CALL))
        self.assertEqual(out.getvalue() + errors.getvalue(), "")


class RefusedChangesNothing(unittest.TestCase):
    def test_all_is_answered_as_before(self):
        laid = [begin(4), arc(0, 1, 5), arc(1, 2, 6), arc(0, 2, 20), arc(2, 3, 1), close(3), search(0, 2), next_way()]
        asked = [
            length_of(0, 1), length_of(1, 0), length_of(2, 3), dist(0, 2), dist(0, 3), dist(3, 3), dist(4, 4),
            way(0, 1, 2), way(0, 2), way(2, 3), way(3), ways(0, 2), nth(0, 2, 1), place(0, 2), over(0, 2, 1, 2),
            apart(0, 2), net(), told(), next_way(), next_way(), told(),
        ]
        refused = [
            begin(0), begin(9), begin(TOP), arc(0, 0, 1), arc(0, 1, 65536), arc(0, 4, 1), arc(4, 0, 1),
            arc(0, TOP, TOP), cut(1, 0), cut(0, 4), cut(TOP, TOP), close(4, 1), close(TOP, 0), length_of(3, 2),
            length_of(4, 0), dist(0, 3), dist(0, 4), way(0, 3), way(), way(4), search(0, 4), search(TOP, 0),
            nth(0, 2, 2), nth(4, 0, 0), ways(0, 4), place(), place(0, 3), over(0, 2, 2, 1), over(0, 2, 0, 4),
            apart(1, 1), apart(0, 4),
        ]
        before = ask(*laid, *asked)[len(laid):]
        self.assertEqual(
            before,
            [5, -2, 1, 11, -2, -2, -1, 11, 20, -2, -2, 2, [2, 20, 0, 2], 1, 1, [2, 0, 1, 0, 2],
             [4, 1, 1, 1, 0, 0, 1, 5, 0, 2, 20, 1, 2, 6, 2, 3, 1], 1, [2, 20, 0, 2], 0, 2],
        )
        for call in refused:
            with self.subTest(call=call):
                found = ask(*laid, call, *asked)[len(laid):]
                self.assertLess(found[0], 0)
                self.assertEqual(found[1:], before)
        self.assertEqual(ask(*laid, *refused, *asked)[-len(asked):], before)


class Interface(unittest.TestCase):
    def test_argument(self):
        self.assertEqual(list(inspect.signature(answers).parameters), ["calls"])


if __name__ == "__main__":
    unittest.main()
