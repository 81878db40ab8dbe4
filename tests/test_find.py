"""Point 5, what it says of find."""

import unittest

from tests.helper import LARGEST, ask_of, expected_find, find, order, small_texts


class Find(unittest.TestCase):
    def check_places(self, text, piece, places):
        """These are all the places, in this order; behind them all is refused."""
        with self.subTest(text=text, piece=piece):
            beyond = (len(places), len(places) + 1, LARGEST)
            self.assertEqual(
                ask_of(text, *[find(k, piece) for k in range(len(places))], *[find(k, piece) for k in beyond]),
                [[at] for at in places] + [[-2]] * 3)

    def test_of_written_texts(self):
        # Rising, not in the endings' order: of "a" in "banana" that would be 5, 3, 1.
        self.check_places(b"banana", b"a", [1, 3, 5])
        self.check_places(b"banana", b"na", [2, 4])
        self.check_places(b"banana", b"b", [0])
        self.check_places(bytes([0, 255, 0, 0]), bytes([0]), [0, 2, 3])
        self.check_places(bytes([0, 255, 0, 0]), bytes([255]), [1])
        self.check_places(bytes([0, 255, 0, 0]), bytes([255, 0]), [1])

    def test_places_that_lie_over_one_another(self):
        self.check_places(b"banana", b"ana", [1, 3])
        self.check_places(b"aaaaa", b"aa", [0, 1, 2, 3])
        for byte in (0, 255):
            text = bytes([byte] * 20)
            for length in range(1, 21):
                self.check_places(text, text[:length], list(range(21 - length)))

    def test_runs_that_begin_one_another(self):
        self.check_places(b"ababab", b"a", [0, 2, 4])
        self.check_places(b"ababab", b"ab", [0, 2, 4])
        self.check_places(b"ababab", b"aba", [0, 2])
        self.check_places(b"ababab", b"abab", [0, 2])
        self.check_places(b"ababab", b"ababa", [0])

    def test_all_bytes_different(self):
        text = bytes(range(100, 120))
        for at in range(20):
            self.check_places(text, text[at:at + 1], [at])
            self.check_places(text, text[at:], [at])

    def test_a_piece_with_no_byte_is_refused_whatever_k_is(self):
        for text in (b"", b"a", b"banana", bytes(20)):
            with self.subTest(text=text):
                self.assertEqual(
                    ask_of(text, find(0, b""), find(len(text), b""), find(LARGEST, b"")), [[-1], [-1], [-1]])

    def test_a_piece_that_stands_nowhere(self):
        self.check_places(b"banana", b"x", [])
        self.check_places(b"banana", b"nn", [])
        # Where the text ends, a piece doesn't go on, at its beginning or with bytes 0.
        self.check_places(b"banana", b"ab", [])
        self.check_places(b"banana", b"a\0", [])
        self.check_places(b"", b"a", [])

    def test_a_piece_longer_than_the_text_stands_nowhere(self):
        self.check_places(b"", bytes(40), [])
        self.check_places(b"a", b"aa", [])
        self.check_places(bytes(20), bytes(21), [])
        self.check_places(bytes(20), bytes(40), [])
        self.check_places(bytes([255] * 20), bytes([255] * 40), [])
        self.check_places(bytes(range(20)), bytes(range(40)), [])

    def test_a_piece_that_is_the_whole_text(self):
        for text in (b"a", b"banana", bytes(20), bytes(range(20))):
            self.check_places(text, text, [0])

    def test_all_of_a_piece_of_40_bytes_is_read(self):
        # Its last bytes look like calls: they are not to be answered.
        self.assertEqual(ask_of(b"ab", find(0, bytes(range(39, -1, -1))), order()), [[-2], [2, 0, 1]])

    def test_a_refusal_changes_nothing(self):
        self.assertEqual(
            ask_of(b"aba", find(0, b""), order(), find(2, b"a"), order(), find(1, b"a")),
            [[-1], [3, 2, 0, 1], [-2], [3, 2, 0, 1], [2]])

    def test_of_all_small_texts(self):
        asked = [(k, piece) for piece in small_texts((0, 255), 3) for k in range(6)]
        for text in small_texts((0, 255), 6):
            with self.subTest(text=text):
                self.assertEqual(
                    ask_of(text, *[find(k, piece) for k, piece in asked]),
                    [[expected_find(text, k, piece)] for k, piece in asked])


if __name__ == "__main__":
    unittest.main()
