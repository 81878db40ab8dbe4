"""Point 4: common."""

import unittest

from tests.helper import LARGEST, ask_of, common, expected_common, order, small_texts


class Common(unittest.TestCase):
    def test_of_written_texts(self):
        written = (
            (b"banana", 1, 3, 3),
            (b"banana", 3, 1, 3),
            (b"banana", 2, 4, 2),
            (b"banana", 1, 5, 1),
            (b"banana", 0, 1, 0),
            # Alike again behind the first byte that differs: that doesn't count.
            (b"axcbxc", 0, 3, 0),
            (b"axcayc", 0, 3, 1),
            (bytes([0, 255, 0, 255, 1]), 0, 2, 2),
            (bytes([255, 0, 0]), 1, 2, 1),
            (bytes([0, 255]), 0, 1, 0),
        )
        for text, i, j, length in written:
            with self.subTest(text=text, i=i, j=j):
                self.assertEqual(ask_of(text, common(i, j)), [[length]])

    def test_one_byte_over_and_over(self):
        for byte in (0, 97, 255):
            text = bytes([byte] * 20)
            with self.subTest(byte=byte):
                self.assertEqual(
                    ask_of(text, common(0, 0), common(0, 1), common(19, 0), common(7, 12), common(20, 0)),
                    [[20], [19], [1], [8], [0]])

    def test_an_ending_with_itself_is_all_of_it(self):
        text = b"banana"
        self.assertEqual(ask_of(text, *[common(i, i) for i in range(7)]), [[6], [5], [4], [3], [2], [1], [0]])

    def test_n_stands_for_the_empty_ending(self):
        self.assertEqual(
            ask_of(b"banana", common(6, 0), common(0, 6), common(6, 6), common(5, 6)), [[0], [0], [0], [0]])
        self.assertEqual(ask_of(b"", common(0, 0)), [[0]])

    def test_above_n_is_refused(self):
        above = (7, 8, LARGEST)
        for number in above:
            with self.subTest(number=number):
                self.assertEqual(
                    ask_of(b"banana", common(number, 0), common(0, number), common(number, 6), common(6, number),
                           common(number, number)),
                    [[-2]] * 5)

    def test_the_empty_text_has_n_alone(self):
        self.assertEqual(
            ask_of(b"", common(1, 0), common(0, 1), common(1, 1), common(LARGEST, LARGEST)), [[-2]] * 4)

    def test_a_text_of_20_bytes(self):
        text = bytes(range(10)) * 2
        self.assertEqual(
            ask_of(text, common(0, 10), common(9, 19), common(20, 19), common(20, 20), common(21, 20)),
            [[10], [1], [0], [0], [-2]])

    def test_a_refusal_changes_nothing(self):
        self.assertEqual(
            ask_of(b"aba", common(4, 0), order(), common(0, 4), common(0, 2)), [[-2], [3, 2, 0, 1], [-2], [1]])

    def test_of_all_small_texts(self):
        for text in small_texts((0, 255), 6):
            pairs = [(i, j) for i in range(len(text) + 1) for j in range(len(text) + 1)]
            with self.subTest(text=text):
                self.assertEqual(
                    ask_of(text, *[common(i, j) for i, j in pairs]),
                    [[expected_common(text, i, j)] for i, j in pairs])


if __name__ == "__main__":
    unittest.main()
