"""Point 5, what it says of count."""

import unittest

from tests.helper import ask_of, count, expected_count, order, small_texts


class Count(unittest.TestCase):
    def test_of_written_texts(self):
        written = (
            (b"banana", b"a", 3),
            (b"banana", b"n", 2),
            (b"banana", b"b", 1),
            (b"banana", b"na", 2),
            (b"banana", b"nab", 0),
            (b"banana", b"x", 0),
            # Where the text ends, a piece doesn't go on, at its beginning or with bytes 0.
            (b"banana", b"ab", 0),
            (b"banana", b"a\0", 0),
            (bytes([0, 255, 0, 0]), bytes([0]), 3),
            (bytes([0, 255, 0, 0]), bytes([0, 0]), 1),
            (bytes([0, 255, 0, 0]), bytes([255]), 1),
            (bytes([0, 255, 0, 0]), bytes([255, 255]), 0),
            # Runs that begin one another.
            (b"ababab", b"a", 3),
            (b"ababab", b"ab", 3),
            (b"ababab", b"abab", 2),
            (b"ababab", b"ababab", 1),
        )
        for text, piece, times in written:
            with self.subTest(text=text, piece=piece):
                self.assertEqual(ask_of(text, count(piece)), [[times]])

    def test_places_may_lie_over_one_another(self):
        self.assertEqual(ask_of(b"banana", count(b"ana")), [[2]])
        self.assertEqual(ask_of(b"aaaaa", count(b"aa"), count(b"aaa"), count(b"aaaa")), [[4], [3], [2]])
        for byte in (0, 255):
            text = bytes([byte] * 20)
            with self.subTest(byte=byte):
                self.assertEqual(
                    ask_of(text, *[count(text[:length]) for length in range(1, 21)]),
                    [[21 - length] for length in range(1, 21)])

    def test_a_piece_with_no_byte_is_refused(self):
        for text in (b"", b"a", b"banana", bytes(20)):
            with self.subTest(text=text):
                self.assertEqual(ask_of(text, count(b"")), [[-1]])

    def test_a_piece_that_is_the_whole_text(self):
        for text in (b"a", b"banana", bytes(20), bytes(range(20))):
            with self.subTest(text=text):
                self.assertEqual(ask_of(text, count(text)), [[1]])

    def test_a_piece_longer_than_the_text_stands_nowhere(self):
        written = (
            (b"", b"a"),
            (b"", bytes(1)),
            (b"", bytes(40)),
            (b"a", b"aa"),
            (b"banana", b"bananab"),
            (b"banana", b"banana\0"),
            (b"banana", b"xbanana"),
            (bytes(20), bytes(21)),
            (bytes(20), bytes(40)),
            (bytes([255] * 20), bytes([255] * 40)),
        )
        for text, piece in written:
            with self.subTest(text=text, piece=piece):
                self.assertEqual(ask_of(text, count(piece)), [[0]])

    def test_all_of_a_piece_of_40_bytes_is_read(self):
        # Its last bytes look like calls: they are not to be answered.
        piece = bytes(range(39, -1, -1))
        self.assertEqual(ask_of(b"ab", count(piece), order()), [[0], [2, 0, 1]])

    def test_a_refusal_changes_nothing(self):
        self.assertEqual(ask_of(b"aba", count(b""), order(), count(b"a")), [[-1], [3, 2, 0, 1], [2]])

    def test_a_piece_does_not_become_the_text(self):
        self.assertEqual(ask_of(b"aba", count(b"bb"), count(b"b"), order()), [[0], [1], [3, 2, 0, 1]])

    def test_of_all_small_texts(self):
        pieces = small_texts((0, 255), 4)[1:]
        for text in small_texts((0, 255), 6):
            with self.subTest(text=text):
                self.assertEqual(
                    ask_of(text, *[count(piece) for piece in pieces]),
                    [[expected_count(text, piece)] for piece in pieces])


if __name__ == "__main__":
    unittest.main()
