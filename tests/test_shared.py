"""Point 8: shared."""

import unittest

from tests.helper import ask_of, expected_shared, order, shared, small_texts


class Shared(unittest.TestCase):
    def test_of_written_texts(self):
        written = (
            (b"banana", b"ananas", [5, 1, 0]),
            (b"banana", b"an", [2, 1, 0]),
            (b"an", b"banana", [2, 0, 1]),
            # Each text is read from its beginning to its end, and not round.
            (b"ab", b"ba", [1, 0, 1]),
            (b"abc", b"cab", [2, 0, 1]),
            (bytes([0, 255, 255, 0]), bytes([7, 255, 0]), [2, 2, 1]),
            (bytes([255, 0]), bytes([0]), [1, 1, 0]),
            # Runs that begin one another.
            (b"ababab", b"xabab", [4, 0, 1]),
            (bytes(range(20)), bytes(range(15, 35)), [5, 15, 0]),
        )
        for text, other, found in written:
            with self.subTest(text=text, other=other):
                self.assertEqual(ask_of(text, shared(other)), [found])

    def test_the_other_text_has_no_byte(self):
        for text in (b"a", b"banana", bytes(20)):
            with self.subTest(text=text):
                self.assertEqual(ask_of(text, shared(b"")), [[0]])

    def test_nothing_in_common(self):
        written = ((b"banana", b"xyz"), (bytes(20), bytes([255] * 40)), (bytes(range(20)), bytes(range(20, 60))))
        for text, other in written:
            with self.subTest(text=text, other=other):
                self.assertEqual(ask_of(text, shared(other)), [[0]])

    def test_with_the_text_itself(self):
        for text in (b"a", b"banana", b"ababab", bytes(20), bytes([255] * 20), bytes(range(20))):
            with self.subTest(text=text):
                self.assertEqual(ask_of(text, shared(text)), [[len(text), 0, 0]])

    def test_an_other_text_of_40_bytes(self):
        written = (
            (b"a", bytes(39) + b"a", [1, 0, 39]),
            (bytes(20), bytes(40), [20, 0, 0]),
            (bytes(range(20)), bytes([255] * 20) + bytes(range(20)), [20, 0, 20]),
            (bytes(range(20)), bytes(range(39, -1, -1)), [1, 0, 39]),
        )
        for text, other, found in written:
            with self.subTest(text=text, other=other):
                self.assertEqual(ask_of(text, shared(other), order()), [found] + ask_of(text, order()))

    def test_of_several_the_first_in_order(self):
        written = (
            # "xy" stands ahead of "ab" in both, and "ab" comes before it.
            (b"xyqab", b"xyrrab", [2, 3, 4]),
            (b"xyqab", b"abrxy", [2, 3, 0]),
            (b"abqxy", b"xyrab", [2, 0, 3]),
            (bytes([255, 0]), bytes([255, 9, 0]), [1, 1, 2]),
            (bytes([128, 127]), bytes([128, 9, 127]), [1, 1, 2]),
            (bytes([10, 9]), bytes([10, 11, 9]), [1, 1, 2]),
        )
        for text, other, found in written:
            with self.subTest(text=text, other=other):
                self.assertEqual(ask_of(text, shared(other)), [found])

    def test_the_longest_goes_ahead_of_the_first_in_order(self):
        self.assertEqual(ask_of(b"abqxyz", shared(b"abrxyz")), [[3, 3, 3]])

    def test_the_first_place_in_both(self):
        self.assertEqual(ask_of(b"cabdab", shared(b"xxabyabz")), [[2, 1, 2]])
        self.assertEqual(ask_of(b"aaa", shared(b"baa")), [[2, 0, 1]])

    def test_the_empty_text(self):
        for other in (b"", b"a", bytes(40)):
            with self.subTest(other=other):
                self.assertEqual(ask_of(b"", shared(other)), [[0]])

    def test_the_other_text_does_not_become_the_text(self):
        self.assertEqual(
            ask_of(b"aba", shared(b"bb"), order(), shared(b""), order(), shared(b"ba")),
            [[1, 1, 0], [3, 2, 0, 1], [0], [3, 2, 0, 1], [2, 1, 0]])

    def test_of_all_small_texts(self):
        for letters, most in (((0, 255), 5), ((0, 128, 255), 3)):
            texts = small_texts(letters, most)
            for text in texts:
                with self.subTest(text=text):
                    self.assertEqual(
                        ask_of(text, *[shared(other) for other in texts]),
                        [expected_shared(text, other) for other in texts])


if __name__ == "__main__":
    unittest.main()
