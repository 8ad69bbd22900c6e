"""The form of what is handed in and given back, and that nothing is kept or changed."""

import inspect
import unittest

from ferryways.net import answers
from helper import TOP, arc, ask, begin, close, cut, dist, joined, length_of, search, way


class Unchanging(list):
    """A list that fails when it is changed, if only for a while."""

    def refuse(self, *given):
        raise AssertionError("what is handed in was changed")

    append = extend = insert = pop = remove = clear = sort = reverse = refuse
    __setitem__ = __delitem__ = __iadd__ = __imul__ = refuse


EACH_CALL = [
    begin(3), arc(0, 1, 7), arc(0, 1, 65536), cut(1, 0), cut(0, 1), cut(0, 3), arc(1, 2, 65535), close(0), close(0, 0),
    close(3), length_of(1, 2), length_of(0, 1), length_of(0, 3), dist(1, 2), dist(2, 1), dist(3, 3), way(1, 2),
    way(), way(TOP, TOP), search(0, 2), search(0, 3), begin(9),
]
EACH_NUMBER = [0, 0, -1, -2, 0, -1, 0, 0, 0, -1, 65535, -2, -1, 65535, -2, -1, 65535, -2, -2, 0, -1, -1]


class Form(unittest.TestCase):
    def test_written_out(self):
        given = answers([0, 2, 1, 0, 1, 9, 5, 0, 1, 6, 2, 0, 1, 6, 0, 7, 0, 2, 4, 1, 0])
        self.assertEqual(
            given,
            [3, 0, 0, 0, 3, 0, 0, 0, 3, 9, 0, 0, 3, 9, 0, 0, 3, -2, 0, 0, 3, -1, 0, 0, 3, -2, 0, 0],
        )

    def test_one_call(self):
        self.assertEqual(answers([0, 8]), [3, 0, 0, 0])
        self.assertEqual(answers([0, 0]), [3, -1, 0, 0])
        self.assertEqual(answers([2, 0, 0]), [3, -2, 0, 0])
        self.assertEqual(answers([6, 0]), [3, -2, 0, 0])

    def test_every_call_and_refusal(self):
        self.assertEqual(ask(*EACH_CALL), EACH_NUMBER)

    def test_a_list_of_plain_whole_numbers(self):
        given = answers(joined(EACH_CALL))
        self.assertIs(type(given), list)
        self.assertEqual({type(number) for number in given}, {int})

    def test_a_hundred_calls(self):
        calls = [begin(8)]
        while len(calls) < 99:
            calls.append(arc(len(calls) % 7, 7, len(calls)))
        calls.append(length_of(0, 7))
        self.assertEqual(len(calls), 100)
        self.assertEqual(ask(*calls), [0] * 99 + [98])

    def test_a_hundred_calls_with_rows_that_fill_the_list(self):
        calls = [way(*[place % 2] * 157) for place in range(98)]
        calls = [begin(2)] + calls + [way(1)]
        self.assertEqual(len(calls), 100)
        self.assertEqual(ask(*calls), [0] + [-2] * 98 + [0])

    def test_numbers_of_a_row_are_no_calls(self):
        self.assertEqual(ask(way(0, 8), way(6, 2, 0, 0), way(7, 0), dist(0, 0)), [-2, -2, -2, 0])


class NothingKept(unittest.TestCase):
    def test_handed_in_is_the_same_afterwards(self):
        calls = joined(EACH_CALL)
        before = list(calls)
        answers(calls)
        self.assertEqual(calls, before)

    def test_handed_in_is_not_changed_for_a_while(self):
        calls = joined(EACH_CALL)
        self.assertEqual(answers(Unchanging(calls)), answers(calls))

    def test_twice_alike(self):
        calls = joined(EACH_CALL)
        first = answers(calls)
        self.assertEqual(answers(calls), first)
        self.assertIsNot(answers(calls), first)

    def test_what_was_given_back_is_free_to_change(self):
        first = answers([0, 2, 4, 0, 1])
        first.clear()
        self.assertEqual(answers([0, 2, 4, 0, 1]), [3, 0, 0, 0, 3, -2, 0, 0])

    def test_new_net_each_time(self):
        ask(begin(8), arc(0, 1, 5), close(0), search(1, 1))
        self.assertEqual(ask(dist(0, 0), dist(1, 1), begin(2), length_of(0, 1)), [0, -1, 0, -2])
        ask(close(0))
        self.assertEqual(ask(dist(0, 0)), [0])


class RefusedChangesNothing(unittest.TestCase):
    def test_all_is_answered_as_before(self):
        laid = [begin(4), arc(0, 1, 5), arc(1, 2, 6), arc(0, 2, 20), arc(2, 3, 1), close(3)]
        asked = [
            length_of(0, 1), length_of(1, 0), length_of(2, 3), dist(0, 2), dist(0, 3), dist(3, 3), dist(4, 4),
            way(0, 1, 2), way(0, 2), way(2, 3), way(3),
        ]
        refused = [
            begin(0), begin(9), begin(TOP), arc(0, 0, 1), arc(0, 1, 65536), arc(0, 4, 1), arc(4, 0, 1),
            arc(0, TOP, TOP), cut(1, 0), cut(0, 4), cut(TOP, TOP), close(4, 1), close(TOP, 0), length_of(3, 2),
            length_of(4, 0), dist(0, 3), dist(0, 4), way(0, 3), way(), way(4), search(0, 4), search(TOP, 0),
        ]
        before = ask(*laid, *asked)[len(laid):]
        self.assertEqual(before, [5, -2, 1, 11, -2, -2, -1, 11, 20, -2, -2])
        for call in refused:
            with self.subTest(call=call):
                found = ask(*laid, call, *asked)[len(laid):]
                self.assertLess(found[0], 0)
                self.assertEqual(found[1:], before)
        self.assertEqual(ask(*laid, *refused, *asked)[-len(asked):], before)


class Interface(unittest.TestCase):
    def test_argument(self):
        self.assertEqual(list(inspect.signature(answers).parameters), ["calls"])


if __name__ == "__main__":
    unittest.main()
