"""Point 6: repeat."""

import unittest

from tests.helper import LARGEST, ask_of, expected_repeat, order, repeat, small_texts


class Repeat(unittest.TestCase):
    def test_of_written_texts(self):
        written = (
            # "banana", "ana", "a"; "a" stands at 3 places, and nothing at more.
            (b"banana", [[6, 0], [3, 1], [1, 1], [0]]),
            (b"mississippi", [[11, 0], [4, 1], [1, 1], [1, 1], [0]]),
            # What stands at more places than asked for is taken, too.
            (b"abxabyab", [[8, 0], [2, 0], [2, 0], [0]]),
            (bytes([255, 0, 255, 0, 0]), [[5, 0], [2, 0], [1, 1], [0]]),
            # Runs that begin one another: "ababab", "abab", "ab".
            (b"ababab", [[6, 0], [4, 0], [2, 0], [0]]),
            (b"a", [[1, 0], [0]]),
        )
        for text, found in written:
            with self.subTest(text=text):
                self.assertEqual(ask_of(text, *[repeat(times + 1) for times in range(len(found))]), found)

    def test_times_0_is_refused(self):
        for text in (b"", b"a", b"banana", bytes(20), bytes(range(20))):
            with self.subTest(text=text):
                self.assertEqual(ask_of(text, repeat(0)), [[-1]])

    def test_once_is_the_whole_text(self):
        for text in (b"a", b"banana", bytes(20), bytes([255] * 20), bytes(range(19, -1, -1))):
            with self.subTest(text=text):
                self.assertEqual(ask_of(text, repeat(1)), [[len(text), 0]])

    def test_one_byte_over_and_over(self):
        for byte in (0, 97, 255):
            text = bytes([byte] * 20)
            with self.subTest(byte=byte):
                self.assertEqual(
                    ask_of(text, *[repeat(times) for times in range(1, 21)]),
                    [[21 - times, 0] for times in range(1, 21)])
                self.assertEqual(ask_of(text, repeat(21), repeat(22), repeat(LARGEST)), [[0], [0], [0]])

    def test_all_bytes_different(self):
        self.assertEqual(
            ask_of(bytes(range(20)), repeat(1), repeat(2), repeat(20), repeat(LARGEST)), [[20, 0], [0], [0], [0]])

    def test_of_several_the_first_in_order(self):
        written = (
            # "xy" stands ahead of "ab", and "ab" comes before it.
            (b"xyxyabab", 2, [2, 4]),
            (b"xyxycabab", 2, [2, 5]),
            (b"ababxyxy", 2, [2, 0]),
            (b"zyzyzxx", 3, [1, 0]),
            (b"zyzyzyxzxx", 3, [2, 0]),
            (b"zzzxxx", 3, [1, 3]),
            (bytes([255, 255, 0, 0]), 2, [1, 2]),
            (bytes([128, 128, 127, 127]), 2, [1, 2]),
            (bytes([10, 10, 9, 9]), 2, [1, 2]),
        )
        for text, times, found in written:
            with self.subTest(text=text, times=times):
                self.assertEqual(ask_of(text, repeat(times)), [found])

    def test_the_longest_goes_ahead_of_the_first_in_order(self):
        self.assertEqual(ask_of(b"aaxyzxyz", repeat(2)), [[3, 2]])

    def test_the_empty_text(self):
        self.assertEqual(
            ask_of(b"", repeat(0), repeat(1), repeat(2), repeat(LARGEST)), [[-1], [0], [0], [0]])

    def test_a_refusal_changes_nothing(self):
        self.assertEqual(
            ask_of(b"aba", repeat(0), order(), repeat(3), repeat(2)), [[-1], [3, 2, 0, 1], [0], [1, 0]])

    def test_of_all_small_texts(self):
        for text in small_texts((0, 255), 7) + small_texts((0, 128, 255), 5):
            asked = range(len(text) + 2)
            with self.subTest(text=text):
                self.assertEqual(
                    ask_of(text, *[repeat(times) for times in asked]),
                    [expected_repeat(text, times) for times in asked])


if __name__ == "__main__":
    unittest.main()
