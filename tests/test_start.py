"""Point 1: start."""

import unittest

from tests.helper import (ask, common, count, different, find, nth, order, place, rank, repeat, shared, start,
                          turn)


class Start(unittest.TestCase):
    def test_answers_0(self):
        for text in (b"", b"a", b"banana", bytes([0, 255]), bytes(20), bytes([255] * 20), bytes(range(20))):
            with self.subTest(text=text):
                self.assertEqual(ask(start(text)), [[0]])

    def test_the_text_is_kept_for_the_calls_behind_it(self):
        self.assertEqual(
            ask(start(b"aba"), order(), count(b"a"), order(), count(b"b")),
            [[0], [3, 2, 0, 1], [2], [3, 2, 0, 1], [1]])

    def test_all_of_a_text_of_20_bytes_is_kept(self):
        text = bytes(range(100, 120))
        self.assertEqual(ask(start(text), order(), count(text)), [[0], [20] + list(range(20)), [1]])

    def test_bytes_that_look_like_calls_are_text(self):
        text = bytes([1, 2, 0, 3, 5, 4, 1])
        self.assertEqual(ask(start(text), count(text), order()), [[0], [1], [7, 2, 6, 0, 1, 3, 5, 4]])

    def test_start_again_puts_a_new_text_in_the_old_ones_place(self):
        self.assertEqual(
            ask(start(b"banana"), order(), count(b"an"), place(5), rank(5), common(1, 3),
                start(b"na"), order(), count(b"an"), place(5), rank(5), common(1, 3), count(b"na")),
            [[0], [6, 5, 3, 1, 0, 4, 2], [2], [2], [0], [3],
             [0], [2, 1, 0], [0], [-2], [-2], [-2], [1]])

    def test_start_again_after_the_calls_about_pieces(self):
        asked = [find(1, b"an"), repeat(2), different(), nth(0), shared(b"nan"), turn()]
        banana = [[3], [3, 1], [15], [1, 1], [3, 2, 0], [5]]
        cna = [[-2], [0], [6], [1, 2], [2, 1, 0], [2]]
        self.assertEqual(
            ask(start(b"banana"), *asked, start(b"cna"), *asked, start(b"banana"), *asked),
            [[0]] + banana + [[0]] + cna + [[0]] + banana)

    def test_start_again_after_refusals(self):
        refused = [find(0, b""), find(9, b"a"), repeat(0), nth(99), place(9), rank(9), common(9, 9), count(b"")]
        self.assertEqual(
            ask(start(b"ba"), *refused, order(), turn(), start(b""), turn(), nth(0), start(b"cab"), *refused, turn()),
            [[0], [-1], [-2], [-1], [-2], [-2], [-2], [-2], [-1], [2, 1, 0], [1],
             [0], [-2], [-2],
             [0], [-1], [-2], [-1], [-2], [-2], [-2], [-2], [-1], [1]])

    def test_start_again_with_a_longer_text(self):
        self.assertEqual(ask(start(b"b"), start(b"ab"), order(), rank(1)), [[0], [0], [2, 0, 1], [1]])

    def test_start_again_with_the_empty_text(self):
        self.assertEqual(ask(start(b"ab"), start(b""), order(), count(b"a")), [[0], [0], [0], [0]])

    def test_start_again_with_the_same_text(self):
        self.assertEqual(ask(start(b"ab"), start(b"ab"), order()), [[0], [0], [2, 0, 1]])


if __name__ == "__main__":
    unittest.main()
