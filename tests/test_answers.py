"""The interface: the list that is handed in, and the one that is given back."""

import contextlib
import inspect
import io
import unittest

from tests.helper import LARGEST, ask, common, count, order, place, rank, start
from textendings.endings import answers


def refuse_change(*given):
    raise AssertionError("the list that was handed in is changed")


class Untouchable(list):
    """A list that tells of a change even if it is taken back later."""

    append = extend = insert = pop = remove = clear = reverse = sort = refuse_change
    __setitem__ = __delitem__ = __iadd__ = __imul__ = refuse_change


ONE_OF_EACH = (start(b"banana") + order() + place(0) + rank(0) + common(1, 3) + count(b"ana") + place(6) + rank(6)
               + common(7, 0) + count(b""))
ONE_OF_EACH_ANSWERED = [1, 0, 7, 6, 5, 3, 1, 0, 4, 2, 1, 5, 1, 3, 1, 3, 1, 2, 1, -2, 1, -2, 1, -2, 1, -1]


class TheListGivenBack(unittest.TestCase):
    def test_number_by_number(self):
        self.assertEqual(answers([0, 3, 97, 98, 97, 1, 5, 1, 97]), [1, 0, 4, 3, 2, 0, 1, 1, 2])
        self.assertEqual(answers(list(ONE_OF_EACH)), ONE_OF_EACH_ANSWERED)

    def test_order_of_the_empty_text_is_one_number(self):
        self.assertEqual(answers([0, 0, 1]), [1, 0, 1, 0])

    def test_a_refusal_stands_alone(self):
        self.assertEqual(answers([0, 0, 2, 0, 3, 0, 4, 1, 0, 5, 0]), [1, 0, 1, -2, 1, -2, 1, -2, 1, -1])

    def test_one_call(self):
        self.assertEqual(answers([0, 0]), [1, 0])

    def test_kinds(self):
        given = answers(list(ONE_OF_EACH))
        self.assertIs(type(given), list)
        self.assertEqual({type(number) for number in given}, {int})

    def test_the_argument_is_called_calls(self):
        self.assertEqual(list(inspect.signature(answers).parameters), ["calls"])
        self.assertEqual(answers(calls=[0, 0]), [1, 0])


class ManyCalls(unittest.TestCase):
    def test_100_calls_of_all_kinds(self):
        calls = [start(b"banana")]
        expected = [[0]]
        for turn in range(11):
            calls += [order(), place(turn), rank(turn), common(turn, 1), count(b"an"), count(b""),
                      start(b"aba" if turn % 2 == 0 else b"banana"), place(LARGEST), rank(LARGEST)]
            banana = turn % 2 == 0
            places = [5, 3, 1, 0, 4, 2] if banana else [2, 0, 1]
            n = len(places)
            lengths = [0, 5, 0, 3, 0, 1, 0] if banana else [0, 2, 0, 0]
            expected += [[n] + places, [places[turn] if turn < n else -2], [places.index(turn) if turn < n else -2],
                         [lengths[turn] if turn <= n else -2], [2 if banana else 0], [-1], [0], [-2], [-2]]
        self.assertEqual(len(calls), 100)
        self.assertEqual(ask(*calls), expected)

    def test_the_longest_calls_100_times(self):
        text = bytes(20)
        calls = [start(text)] + [count(bytes(40))] * 49 + [order()] * 50
        self.assertEqual(ask(*calls), [[0]] + [[0]] * 49 + [[20] + list(range(19, -1, -1))] * 50)

    def test_100_starts(self):
        calls = [start(bytes([turn] * (turn % 21))) for turn in range(99)] + [order()]
        self.assertEqual(ask(*calls), [[0]] * 99 + [[14] + list(range(13, -1, -1))])


class NothingIsKeptOrChanged(unittest.TestCase):
    def test_the_list_is_the_same_afterwards(self):
        calls = list(ONE_OF_EACH)
        answers(calls)
        self.assertEqual(calls, ONE_OF_EACH)

    def test_the_list_is_not_changed_for_a_while_either(self):
        self.assertEqual(answers(Untouchable(ONE_OF_EACH)), ONE_OF_EACH_ANSWERED)

    def test_asked_twice_the_same_is_answered(self):
        calls = list(ONE_OF_EACH)
        self.assertEqual(answers(calls), ONE_OF_EACH_ANSWERED)
        self.assertEqual(answers(calls), ONE_OF_EACH_ANSWERED)

    def test_what_was_given_back_is_not_kept(self):
        calls = list(ONE_OF_EACH)
        first = answers(calls)
        first.clear()
        second = answers(calls)
        self.assertEqual(second, ONE_OF_EACH_ANSWERED)
        answers(start(b"zz") + order())
        self.assertEqual(second, ONE_OF_EACH_ANSWERED)

    def test_another_text_between(self):
        first = start(b"ab") + order() + count(b"b")
        other = start(b"ba") + order() + count(b"bb")
        self.assertEqual(answers(first), [1, 0, 3, 2, 0, 1, 1, 1])
        self.assertEqual(answers(other), [1, 0, 3, 2, 1, 0, 1, 0])
        self.assertEqual(answers(first), [1, 0, 3, 2, 0, 1, 1, 1])

    def test_nothing_is_printed(self):
        out = io.StringIO()
        with contextlib.redirect_stdout(out), contextlib.redirect_stderr(out):
            answers(list(ONE_OF_EACH))
        self.assertEqual(out.getvalue(), "")


if __name__ == "__main__":
    unittest.main()
