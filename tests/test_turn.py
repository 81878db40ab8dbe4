"""Point 9: turn."""

import unittest

from tests.helper import ask_of, expected_turn, order, small_texts, turn


class Turn(unittest.TestCase):
    def test_of_written_texts(self):
        written = (
            (b"ab", 0),
            (b"ba", 1),
            (b"cab", 1),
            (b"ccabd", 2),
            (b"banana", 5),
            (b"mississippi", 10),
            # The ending "a" comes first of the endings, but goes on with "c".
            (b"cabxa", 1),
            (b"aba", 2),
            (bytes([255, 0, 255]), 1),
            (bytes([0, 255, 0]), 2),
            (bytes([255, 128, 127]), 2),
            (bytes([10, 9]), 1),
            (bytes(range(20)), 0),
            (bytes(range(19, -1, -1)), 19),
            (bytes(range(10, 20)) + bytes(range(10)), 10),
        )
        for text, at in written:
            with self.subTest(text=text):
                self.assertEqual(ask_of(text, turn()), [[at]])

    def test_one_byte_over_and_over(self):
        for byte in (0, 97, 255):
            for length in (2, 3, 19, 20):
                with self.subTest(byte=byte, length=length):
                    self.assertEqual(ask_of(bytes([byte] * length), turn()), [[0]])

    def test_a_run_over_and_over(self):
        written = ((b"abab", 0), (b"baba", 1), (b"abaaba", 2), (b"cab" * 6, 1), (bytes([255, 0]) * 10, 1),
                   (bytes([1, 2, 3, 4, 0]) * 4, 4))
        for text, at in written:
            with self.subTest(text=text):
                self.assertEqual(ask_of(text, turn()), [[at]])

    def test_one_byte_alone(self):
        for byte in (0, 97, 255):
            with self.subTest(byte=byte):
                self.assertEqual(ask_of(bytes([byte]), turn()), [[0]])

    def test_the_empty_text_is_refused(self):
        self.assertEqual(ask_of(b"", turn()), [[-2]])

    def test_the_text_itself_is_not_turned(self):
        self.assertEqual(ask_of(b"cab", turn(), order(), turn()), [[1], [3, 1, 2, 0], [1]])

    def test_a_refusal_changes_nothing(self):
        self.assertEqual(ask_of(b"", turn(), order(), turn()), [[-2], [0], [-2]])

    def test_of_all_small_texts(self):
        for text in small_texts((0, 255), 8) + small_texts((0, 128, 255), 5):
            with self.subTest(text=text):
                self.assertEqual(ask_of(text, turn()), [[expected_turn(text)]])


if __name__ == "__main__":
    unittest.main()
