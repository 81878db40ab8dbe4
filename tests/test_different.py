"""Point 7: different, nth."""

import unittest

from tests.helper import LARGEST, ask_of, different, expected_nth, expected_pieces, nth, order, small_texts

# Each text with its different pieces in order: their lengths and first places.
PIECES = (
    (b"", []),
    (b"a", [[1, 0]]),
    (b"ab", [[1, 0], [2, 0], [1, 1]]),
    (b"ba", [[1, 1], [1, 0], [2, 0]]),
    (b"aba", [[1, 0], [2, 0], [3, 0], [1, 1], [2, 1]]),
    # "a" to "anana", "b" to "banana", "n" to "nana".
    (b"banana", [[1, 1], [2, 1], [3, 1], [4, 1], [5, 1], [1, 0], [2, 0], [3, 0], [4, 0], [5, 0], [6, 0],
                 [1, 2], [2, 2], [3, 2], [4, 2]]),
    # Runs that begin one another: "a" to "ababab", "b" to "babab".
    (b"ababab", [[length, 0] for length in range(1, 7)] + [[length, 1] for length in range(1, 6)]),
    (bytes([255, 0]), [[1, 1], [1, 0], [2, 0]]),
    (bytes([0, 0, 255]), [[1, 0], [2, 0], [3, 0], [2, 1], [1, 2]]),
    # 255 is above 127 and 128, not below 0.
    (bytes([255, 128, 127]), [[1, 2], [1, 1], [2, 1], [1, 0], [2, 0], [3, 0]]),
    (bytes([10, 9]), [[1, 1], [1, 0], [2, 0]]),
    (bytes(20), [[length, 0] for length in range(1, 21)]),
    (bytes([255] * 20), [[length, 0] for length in range(1, 21)]),
    (bytes(range(20)), [[length, at] for at in range(20) for length in range(1, 21 - at)]),
    (bytes(range(255, 235, -1)), [[length, at] for at in range(19, -1, -1) for length in range(1, 21 - at)]),
)


class Different(unittest.TestCase):
    def test_of_written_texts(self):
        for text, pieces in PIECES:
            with self.subTest(text=text):
                self.assertEqual(ask_of(text, different()), [[len(pieces)]])

    def test_the_fewest_and_the_most(self):
        self.assertEqual(ask_of(b"", different()), [[0]])
        self.assertEqual(ask_of(bytes(20), different()), [[20]])
        self.assertEqual(ask_of(bytes(range(20)), different()), [[210]])

    def test_of_all_small_texts(self):
        for text in small_texts((0, 255), 7) + small_texts((0, 128, 255), 5):
            with self.subTest(text=text):
                self.assertEqual(ask_of(text, different()), [[len(expected_pieces(text))]])


class Nth(unittest.TestCase):
    def test_every_piece_of_written_texts(self):
        for text, pieces in PIECES:
            # A line has at most 100 calls, the start among them.
            for first in range(0, len(pieces), 99):
                asked = range(first, min(first + 99, len(pieces)))
                with self.subTest(text=text, first=first):
                    self.assertEqual(ask_of(text, *[nth(k) for k in asked]), [pieces[k] for k in asked])

    def test_behind_the_last_is_refused(self):
        for text, pieces in PIECES:
            with self.subTest(text=text):
                n = len(pieces)
                self.assertEqual(ask_of(text, nth(n), nth(n + 1), nth(LARGEST)), [[-2], [-2], [-2]])

    def test_a_piece_that_stands_several_times_is_told_by_its_first_place(self):
        # "ab" stands at 1, 4 and 7; of the endings that it begins, the one at 7 comes first.
        self.assertEqual(ask_of(b"xabyabzab", nth(0), nth(1)), [[1, 1], [2, 1]])

    def test_the_empty_text_has_none(self):
        self.assertEqual(ask_of(b"", nth(0), nth(1), nth(LARGEST)), [[-2], [-2], [-2]])

    def test_a_refusal_changes_nothing(self):
        self.assertEqual(
            ask_of(b"aba", nth(5), order(), nth(4), different()), [[-2], [3, 2, 0, 1], [2, 1], [5]])

    def test_of_all_small_texts(self):
        for text in small_texts((0, 255), 7) + small_texts((0, 128, 255), 5):
            asked = range(len(expected_pieces(text)) + 1)
            with self.subTest(text=text):
                self.assertEqual(ask_of(text, *[nth(k) for k in asked]), [expected_nth(text, k) for k in asked])


if __name__ == "__main__":
    unittest.main()
