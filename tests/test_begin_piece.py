"""Calls 1 (begin) and 2 (piece)."""

import unittest

from helper import EVEN, FIND, LARGEST, PARTING, ask, begin, colours_seen, cut, last, mean, piece, shift

WRONG_SIDES = [(0, 1), (1, 0), (0, 0), (17, 1), (1, 17), (17, 17), (LARGEST, 1), (1, LARGEST)]


class Begin(unittest.TestCase):
    def test_answers_0_and_sets_the_picture_in_order(self):
        call = begin(3, 2, [1, 2, 3, 40, 50, 255])
        self.assertEqual(ask(call), [[0]])
        self.assertEqual(colours_seen([call], 3, 2), [1, 2, 3, 40, 50, 255])

    def test_takes_each_size_up_to_16(self):
        for w in range(1, 17):
            for h in range(1, 17):
                self.assertEqual(ask(begin(w, h, [255] * (w * h))), [[0]])

    def test_has_as_many_pixels_as_told(self):
        for w, h in [(1, 16), (16, 1), (16, 16), (2, 2)]:
            lit = begin(w, h, [0] * (w * h - 1) + [9])
            count = w * h - 1
            self.assertEqual(last(lit, PARTING), [0, (9 * count) ** 2, count])

    def test_may_come_again(self):
        first = begin(2, 2, [9, 8, 7, 6])
        second = begin(3, 1, [5, 4, 3])
        self.assertEqual(ask(first, second), [[0], [0]])
        self.assertEqual(colours_seen([first, second], 3, 1), [5, 4, 3])

    def test_at_the_beginning_one_pixel_of_colour_0(self):
        self.assertEqual(ask(PARTING, EVEN, mean(3, 4)), [[0, 0, 1], [0], [0]])
        self.assertEqual(colours_seen([mean(0, 0)], 1, 1), [0])

    def test_a_side_that_is_not_1_to_16(self):
        for w, h in WRONG_SIDES:
            self.assertEqual(ask(begin(w, h, [0])), [[-1]])

    def test_not_as_many_colours(self):
        for count in [0, 1, 5, 7, 256, 1024]:
            self.assertEqual(ask(begin(3, 2, [0] * count)), [[-3]])
        self.assertEqual(ask(begin(16, 16, [0] * 255)), [[-3]])
        self.assertEqual(ask(begin(1, 1, [])), [[-3]])

    def test_a_colour_above_255(self):
        for colour in [256, 1000, LARGEST]:
            self.assertEqual(ask(begin(2, 1, [0, colour])), [[-3]])
            self.assertEqual(ask(begin(2, 1, [colour, 0])), [[-3]])
        self.assertEqual(ask(begin(2, 1, [255, 255])), [[0]])

    def test_the_side_is_told_before_the_colours(self):
        for w, h in WRONG_SIDES:
            self.assertEqual(ask(begin(w, h, [])), [[-1]])
            self.assertEqual(ask(begin(w, h, [256])), [[-1]])
        self.assertEqual(ask(begin(17, 1, [0] * 16 + [LARGEST])), [[-1]])

    def test_after_a_refusal_the_picture_is_as_it_was(self):
        good = begin(2, 2, [10, 20, 30, 40])
        for bad in [begin(0, 1, []), begin(3, 1, [1, 2]), begin(2, 2, [1, 2, 3, 256])]:
            self.assertEqual(colours_seen([good, bad], 2, 2), [10, 20, 30, 40])


class Piece(unittest.TestCase):
    def test_answers_0_and_leaves_the_picture(self):
        good = begin(2, 2, [10, 20, 30, 40])
        self.assertEqual(ask(good, piece(3, 1, [1, 2, 3])), [[0], [0]])
        self.assertEqual(colours_seen([good, piece(3, 1, [1, 2, 3])], 2, 2), [10, 20, 30, 40])

    def test_takes_each_size_up_to_16(self):
        for w in range(1, 17):
            for h in range(1, 17):
                self.assertEqual(ask(piece(w, h, [255] * (w * h))), [[0]])

    def test_its_refusals(self):
        for w, h in WRONG_SIDES:
            self.assertEqual(ask(piece(w, h, [0])), [[-1]])
            self.assertEqual(ask(piece(w, h, [LARGEST])), [[-1]])
        for colours in [[], [0], [0, 0, 0], [0, 256], [LARGEST, 0], [0] * 1024]:
            self.assertEqual(ask(piece(2, 1, colours)), [[-3]])

    def test_a_refusal_leaves_the_picture(self):
        good = begin(2, 2, [10, 20, 30, 40])
        for bad in [piece(0, 1, []), piece(3, 1, [1, 2]), piece(2, 2, [1, 2, 3, 256])]:
            self.assertEqual(colours_seen([good, bad], 2, 2), [10, 20, 30, 40])


class KeptAside(unittest.TestCase):
    """What the piece is, as find and shift show it."""

    picture = begin(3, 3, [10, 20, 30, 40, 50, 60, 70, 80, 90])

    def test_at_the_beginning_one_pixel_of_colour_0(self):
        self.assertEqual(ask(FIND, shift(8)), [[0, 0, 0], [0, 0, 0, 0, 1]])
        self.assertEqual(last(self.picture, FIND), [100, 0, 0])
        self.assertEqual(last(self.picture, shift(8)), [0, 0, 0, 100, 1])

    def test_piece_sets_it(self):
        self.assertEqual(last(self.picture, piece(2, 2, [50, 60, 80, 90]), FIND), [0, 1, 1])
        self.assertEqual(last(self.picture, piece(1, 3, [20, 50, 82]), FIND), [4, 1, 0])
        self.assertEqual(last(self.picture, piece(3, 1, [40, 50, 63]), FIND), [9, 0, 1])
        self.assertEqual(last(self.picture, piece(4, 1, [0] * 4), FIND), [-3])
        self.assertEqual(last(self.picture, piece(1, 4, [0] * 4), FIND), [-3])

    def test_piece_may_come_again(self):
        self.assertEqual(last(self.picture, piece(4, 1, [0] * 4), piece(1, 1, [81]), FIND), [1, 1, 2])

    def test_begin_makes_it_one_pixel_of_colour_0_again(self):
        for earlier in [piece(1, 3, [20, 50, 80]), piece(16, 16, [200] * 256), cut(1, 1, 2, 2), cut(2, 2, 1, 1)]:
            calls = [self.picture, earlier, self.picture]
            self.assertEqual(last(*calls, FIND), [100, 0, 0])
            self.assertEqual(last(*calls, shift(8)), [0, 0, 0, 100, 1])
        self.assertEqual(last(piece(2, 1, [7, 8]), begin(1, 1, [5]), FIND), [25, 0, 0])

    def test_a_refusal_leaves_it(self):
        calls = [self.picture, piece(1, 3, [21, 50, 82])]
        for bad, refusal in [(piece(17, 1, [1]), -1), (piece(2, 1, [1]), -3), (piece(1, 1, [256]), -3),
                             (begin(0, 1, []), -1), (begin(1, 1, [256]), -3), (begin(3, 3, [1] * 8), -3)]:
            self.assertEqual(ask(*calls, bad, FIND)[2:], [[refusal], [1 + 4, 1, 0]])
            self.assertEqual(last(*calls, bad, shift(0)), [0, 0, 0, 11 ** 2 + 10 ** 2 + 12 ** 2, 3])


if __name__ == "__main__":
    unittest.main()
