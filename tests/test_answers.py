"""The interface: the list that is handed in, and the one that is given back."""

import contextlib
import inspect
import io
import unittest

from tests.helper import (LARGEST, ask, common, count, different, expected_common, expected_count, expected_find,
                          expected_nth, expected_order, expected_pieces, expected_repeat, expected_shared,
                          expected_turn, find, nth, order, place, rank, repeat, shared, start, turn)
from textendings.endings import answers


def refuse_change(*given):
    raise AssertionError("the list that was handed in is changed")


class Untouchable(list):
    """A list that tells of a change even if it is taken back later."""

    append = extend = insert = pop = remove = clear = reverse = sort = refuse_change
    __setitem__ = __delitem__ = __iadd__ = __imul__ = refuse_change


ONE_OF_EACH = (start(b"banana") + order() + place(0) + rank(0) + common(1, 3) + count(b"ana") + place(6) + rank(6)
               + common(7, 0) + count(b"") + find(1, b"ana") + repeat(2) + different() + nth(12) + shared(b"xnan")
               + turn() + find(2, b"ana") + find(2, b"") + repeat(0) + repeat(4) + nth(15) + shared(b"x"))
ONE_OF_EACH_ANSWERED = [1, 0, 7, 6, 5, 3, 1, 0, 4, 2, 1, 5, 1, 3, 1, 3, 1, 2, 1, -2, 1, -2, 1, -2, 1, -1,
                        1, 3, 2, 3, 1, 1, 15, 2, 2, 2, 3, 3, 2, 1, 1, 5, 1, -2, 1, -1, 1, -1, 1, 0, 1, -2, 1, 0]

TEXTS = (b"banana", b"", bytes([255, 0, 255, 0, 0]), bytes(20), b"ababab", bytes(range(19, -1, -1)), b"mississippi",
         b"x")


def eleven_calls(text, k):
    """A call of each kind but start, with what it is to answer."""
    places = expected_order(text)
    n = len(text)
    piece = text[1:3]
    other = text[2:] + b"ab" + text[:2]
    return [
        (order(), [n] + places),
        (place(k), [places[k] if k < n else -2]),
        (rank(k), [places.index(k) if k < n else -2]),
        (common(k, n), [expected_common(text, k, n) if k <= n else -2]),
        (count(piece), [expected_count(text, piece) if piece else -1]),
        (find(k % 3, piece), [expected_find(text, k % 3, piece)]),
        (repeat(k % 4), expected_repeat(text, k % 4)),
        (different(), [len(expected_pieces(text))]),
        (nth(k * 3), expected_nth(text, k * 3)),
        (shared(other), expected_shared(text, other)),
        (turn(), [expected_turn(text)]),
    ]


class TheListGivenBack(unittest.TestCase):
    def test_number_by_number(self):
        self.assertEqual(answers([0, 3, 97, 98, 97, 1, 5, 1, 97]), [1, 0, 4, 3, 2, 0, 1, 1, 2])
        self.assertEqual(answers([0, 2, 98, 97, 6, 0, 1, 97, 7, 1, 8, 9, 0, 10, 2, 99, 97, 11]),
                         [1, 0, 1, 1, 2, 2, 0, 1, 3, 2, 1, 1, 3, 1, 1, 1, 1, 1])
        self.assertEqual(answers(list(ONE_OF_EACH)), ONE_OF_EACH_ANSWERED)

    def test_0_alone_where_there_is_none(self):
        self.assertEqual(answers([0, 1, 7, 7, 2, 10, 0, 10, 1, 8, 0, 0, 7, 1, 10, 1, 7, 8]),
                         [1, 0, 1, 0, 1, 0, 1, 0, 1, 0, 1, 0, 1, 0, 1, 0])

    def test_order_of_the_empty_text_is_one_number(self):
        self.assertEqual(answers([0, 0, 1]), [1, 0, 1, 0])

    def test_a_refusal_stands_alone(self):
        self.assertEqual(answers([0, 0, 2, 0, 3, 0, 4, 1, 0, 5, 0]), [1, 0, 1, -2, 1, -2, 1, -2, 1, -1])
        self.assertEqual(answers([0, 0, 6, 0, 0, 6, 0, 1, 7, 7, 0, 9, 0, 11]),
                         [1, 0, 1, -1, 1, -2, 1, -1, 1, -2, 1, -2])

    def test_one_call(self):
        self.assertEqual(answers([0, 0]), [1, 0])

    def test_kinds(self):
        given = answers(list(ONE_OF_EACH))
        self.assertIs(type(given), list)
        self.assertEqual({type(number) for number in given}, {int})

    def test_the_argument_is_called_calls(self):
        self.assertEqual(list(inspect.signature(answers).parameters), ["calls"])
        self.assertEqual(answers(calls=[0, 0]), [1, 0])


class ManyCalls(unittest.TestCase):
    def test_100_calls_of_six_kinds(self):
        calls = [start(b"banana")]
        expected = [[0]]
        for step in range(11):
            calls += [order(), place(step), rank(step), common(step, 1), count(b"an"), count(b""),
                      start(b"aba" if step % 2 == 0 else b"banana"), place(LARGEST), rank(LARGEST)]
            banana = step % 2 == 0
            places = [5, 3, 1, 0, 4, 2] if banana else [2, 0, 1]
            n = len(places)
            lengths = [0, 5, 0, 3, 0, 1, 0] if banana else [0, 2, 0, 0]
            expected += [[n] + places, [places[step] if step < n else -2], [places.index(step) if step < n else -2],
                         [lengths[step] if step <= n else -2], [2 if banana else 0], [-1], [0], [-2], [-2]]
        self.assertEqual(len(calls), 100)
        self.assertEqual(ask(*calls), expected)

    def test_100_calls_of_all_twelve_kinds(self):
        asked = []
        for step, text in enumerate(TEXTS):
            kinds = eleven_calls(text, step)
            # Turned from text to text, so that now one kind and now another comes right behind the start.
            asked += [(start(text), [0])] + kinds[step:] + kinds[:step]
        asked += [(start(b""), [0]), (turn(), [-2]), (shared(b"a"), [0]), (nth(0), [-2])]
        self.assertEqual(len(asked), 100)
        self.assertEqual({call[0] for call, expected in asked}, set(range(12)))
        self.assertEqual(ask(*[call for call, expected in asked]), [expected for call, expected in asked])

    def test_the_longest_calls_100_times(self):
        text = bytes(20)
        calls = [start(text)] + [count(bytes(40))] * 49 + [order()] * 50
        self.assertEqual(ask(*calls), [[0]] + [[0]] * 49 + [[20] + list(range(19, -1, -1))] * 50)

    def test_the_longest_calls_about_pieces_100_times(self):
        text = bytes(range(20))
        other = bytes([255] * 39) + bytes([19])
        calls = [start(text)] + [shared(other), repeat(2), nth(209)] * 33
        self.assertEqual(ask(*calls), [[0]] + [[1, 19, 39], [0], [1, 19]] * 33)

    def test_100_starts(self):
        calls = [start(bytes([step] * (step % 21))) for step in range(99)] + [order()]
        self.assertEqual(ask(*calls), [[0]] * 99 + [[14] + list(range(13, -1, -1))])


class NothingIsKeptOrChanged(unittest.TestCase):
    def test_the_list_is_the_same_afterwards(self):
        calls = list(ONE_OF_EACH)
        answers(calls)
        self.assertEqual(calls, ONE_OF_EACH)

    def test_the_list_is_not_changed_for_a_while_either(self):
        self.assertEqual(answers(Untouchable(ONE_OF_EACH)), ONE_OF_EACH_ANSWERED)

    def test_asked_twice_the_same_is_answered(self):
        calls = list(ONE_OF_EACH)
        self.assertEqual(answers(calls), ONE_OF_EACH_ANSWERED)
        self.assertEqual(answers(calls), ONE_OF_EACH_ANSWERED)

    def test_what_was_given_back_is_not_kept(self):
        calls = list(ONE_OF_EACH)
        first = answers(calls)
        first.clear()
        second = answers(calls)
        self.assertEqual(second, ONE_OF_EACH_ANSWERED)
        answers(start(b"zz") + order())
        self.assertEqual(second, ONE_OF_EACH_ANSWERED)

    def test_another_text_between(self):
        first = start(b"ab") + order() + count(b"b")
        other = start(b"ba") + order() + count(b"bb")
        self.assertEqual(answers(first), [1, 0, 3, 2, 0, 1, 1, 1])
        self.assertEqual(answers(other), [1, 0, 3, 2, 1, 0, 1, 0])
        self.assertEqual(answers(first), [1, 0, 3, 2, 0, 1, 1, 1])

    def test_nothing_is_printed(self):
        out = io.StringIO()
        with contextlib.redirect_stdout(out), contextlib.redirect_stderr(out):
            answers(list(ONE_OF_EACH))
        self.assertEqual(out.getvalue(), "")


if __name__ == "__main__":
    unittest.main()
