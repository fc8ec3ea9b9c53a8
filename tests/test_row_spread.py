"""Calls 11 (row) and 12 (spread)."""

import unittest

from helper import (LARGEST, SIZES, SPREAD, ask, begin, cut, last, part, piece, row, some_colours, source_of,
                    spread_out)


class Row(unittest.TestCase):
    call = begin(3, 2, [1, 2, 255, 4, 0, 6])

    def test_how_many_then_the_colours(self):
        self.assertEqual(ask(self.call, row(0), row(1)), [[0], [3, 1, 2, 255], [3, 4, 0, 6]])

    def test_the_first_and_the_last_row(self):
        for w, h in SIZES:
            colours = [number % 256 for number in range(w * h)]
            self.assertEqual(last(begin(w, h, colours), row(0)), [w] + colours[:w])
            self.assertEqual(last(begin(w, h, colours), row(h - 1)), [w] + colours[-w:])

    def test_behind_the_last_there_is_none(self):
        for w, h in SIZES:
            for y in [h, h + 1, 17, LARGEST]:
                self.assertEqual(ask(begin(w, h, [5] * (w * h)), row(y)), [[0], [-1]])
        self.assertEqual(ask(self.call, row(2), row(1)), [[0], [-1], [3, 4, 0, 6]])

    def test_at_the_beginning(self):
        self.assertEqual(ask(row(0), row(1)), [[1, 0], [-1]])

    def test_each_row_of_the_largest(self):
        call = begin(16, 16, list(range(256)))
        told = ask(call, *[row(y) for y in range(17)])
        self.assertEqual(told[1:17], [[16] + list(range(16 * y, 16 * y + 16)) for y in range(16)])
        self.assertEqual(told[17], [-1])

    def test_of_the_picture_as_it_is_now_not_of_the_piece(self):
        self.assertEqual(ask(self.call, part(2), row(0))[2], [3, 0, 0, 255])
        self.assertEqual(ask(self.call, piece(1, 4, [7, 7, 7, 7]), row(0), row(2))[2:], [[3, 1, 2, 255], [-1]])
        self.assertEqual(ask(self.call, cut(1, 1, 1, 1), row(1))[2], [3, 4, 0, 6])


class Spread(unittest.TestCase):
    def test_the_least_first_each_with_how_many(self):
        call = begin(3, 2, [9, 200, 9, 0, 9, 200])
        self.assertEqual(ask(call, SPREAD), [[0], [3, 0, 1, 9, 3, 200, 2]])

    def test_at_the_beginning(self):
        self.assertEqual(ask(SPREAD), [[1, 0, 1]])

    def test_one_colour(self):
        for w, h in SIZES:
            for colour in [0, 1, 128, 255]:
                self.assertEqual(last(begin(w, h, [colour] * (w * h)), SPREAD), [1, colour, w * h])

    def test_256_colours(self):
        expected = [256]
        for colour in range(256):
            expected += [colour, 1]
        self.assertEqual(last(begin(16, 16, list(range(256))), SPREAD), expected)
        self.assertEqual(last(begin(16, 16, list(range(255, -1, -1))), SPREAD), expected)
        self.assertEqual(last(begin(16, 16, [number * 77 % 256 for number in range(256)]), SPREAD), expected)

    def test_the_ends(self):
        self.assertEqual(last(begin(3, 1, [255, 0, 255]), SPREAD), [2, 0, 1, 255, 2])

    def test_changes_nothing(self):
        call = begin(3, 1, [30, 10, 20])
        self.assertEqual(ask(call, SPREAD, SPREAD, row(0))[1:], [[3, 10, 1, 20, 1, 30, 1]] * 2 + [[3, 30, 10, 20]])

    def test_of_the_picture_as_it_is_now(self):
        self.assertEqual(last(begin(3, 1, [30, 10, 20]), part(10), SPREAD), [2, 0, 1, 255, 2])
        self.assertEqual(last(begin(3, 1, [30, 10, 20]), piece(1, 1, [4]), SPREAD), [3, 10, 1, 20, 1, 30, 1])

    def test_against_the_second_way(self):
        source = source_of(91)
        for number in range(20):
            for w, h in SIZES:
                colours = some_colours(source, w * h)
                self.assertEqual(last(begin(w, h, colours), SPREAD), spread_out(colours))


if __name__ == "__main__":
    unittest.main()
