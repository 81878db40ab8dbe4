"""Points 2 and 3: order, place, rank."""

import unittest

from tests.helper import LARGEST, ask_of, expected_order, order, place, rank, small_texts

# Each text with the places of its endings in order.
ORDERS = (
    (b"", []),
    (b"a", [0]),
    (b"ab", [0, 1]),
    (b"ba", [1, 0]),
    (b"banana", [5, 3, 1, 0, 4, 2]),
    (b"mississippi", [10, 7, 4, 1, 0, 9, 8, 6, 3, 5, 2]),
    # One byte over and over: each ending begins the one before it, so the shortest is first.
    (b"aaaa", [3, 2, 1, 0]),
    (bytes(20), list(range(19, -1, -1))),
    (bytes([255] * 20), list(range(19, -1, -1))),
    # A byte 0 behind a run is more than the run's end.
    (bytes([1, 0, 1]), [1, 2, 0]),
    (bytes([0, 0, 1, 0]), [3, 0, 1, 2]),
    # 255 is above 127 and 128, not below 0.
    (bytes([255, 0, 128, 127]), [1, 3, 2, 0]),
    (bytes([9, 10]), [0, 1]),
    (bytes([10, 9]), [1, 0]),
    # Runs that begin one another: "ab", "abab", "ababab".
    (b"ababab", [4, 2, 0, 5, 3, 1]),
    (bytes(range(19, -1, -1)), list(range(19, -1, -1))),
)


class Order(unittest.TestCase):
    def test_of_written_texts(self):
        for text, places in ORDERS:
            with self.subTest(text=text):
                self.assertEqual(ask_of(text, order()), [[len(text)] + places])

    def test_of_the_empty_text_is_0_alone(self):
        self.assertEqual(ask_of(b"", order()), [[0]])

    def test_of_all_small_texts(self):
        for text in small_texts((0, 1, 255), 5):
            with self.subTest(text=text):
                self.assertEqual(ask_of(text, order()), [[len(text)] + expected_order(text)])


class PlaceAndRank(unittest.TestCase):
    def test_every_place_of_written_texts(self):
        for text, places in ORDERS:
            with self.subTest(text=text):
                self.assertEqual(ask_of(text, *[place(k) for k in range(len(text))]), [[at] for at in places])

    def test_every_rank_of_written_texts(self):
        for text, places in ORDERS:
            with self.subTest(text=text):
                asked = ask_of(text, *[rank(i) for i in range(len(text))])
                self.assertEqual(asked, [[places.index(i)] for i in range(len(text))])

    def test_of_all_small_texts(self):
        for text in small_texts((0, 7, 255), 4):
            places = expected_order(text)
            with self.subTest(text=text):
                self.assertEqual(ask_of(text, *[place(k) for k in range(len(text))]), [[at] for at in places])
                self.assertEqual(ask_of(text, *[rank(at) for at in places]), [[k] for k in range(len(text))])

    def test_place_just_below_n_and_beyond(self):
        self.assertEqual(
            ask_of(b"banana", place(5), place(6), place(7), place(LARGEST)), [[2], [-2], [-2], [-2]])

    def test_rank_just_below_n_and_beyond(self):
        self.assertEqual(
            ask_of(b"banana", rank(5), rank(6), rank(7), rank(LARGEST)), [[0], [-2], [-2], [-2]])

    def test_a_text_of_20_bytes_has_no_more_than_20(self):
        text = bytes(range(20))
        self.assertEqual(ask_of(text, place(19), place(20), place(LARGEST)), [[19], [-2], [-2]])
        self.assertEqual(ask_of(text, rank(19), rank(20), rank(LARGEST)), [[19], [-2], [-2]])

    def test_the_empty_text_has_none(self):
        for asked in (0, 1, LARGEST):
            with self.subTest(asked=asked):
                self.assertEqual(ask_of(b"", place(asked), rank(asked)), [[-2], [-2]])

    def test_a_refusal_changes_nothing(self):
        self.assertEqual(
            ask_of(b"banana", place(6), order(), rank(6), order(), place(0), rank(0)),
            [[-2], [6, 5, 3, 1, 0, 4, 2], [-2], [6, 5, 3, 1, 0, 4, 2], [5], [3]])


if __name__ == "__main__":
    unittest.main()
