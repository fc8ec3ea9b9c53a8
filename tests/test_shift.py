"""Call 10 (shift)."""

import unittest
from fractions import Fraction

from helper import (FIND, LARGEST, SIZES, ask, begin, colours_seen, cut, laid_on, last, part, piece, shift,
                    shifted, some_colours, source_of)

# One lit pixel in the middle of the picture, and pieces that have it elsewhere.
SPOT = (5, 5, [0] * 12 + [200] + [0] * 12)


def spot_at(x, y):
    colours = [0] * 25
    colours[y * 5 + x] = 200
    return 5, 5, colours


class Shift(unittest.TestCase):
    def told(self, picture, kept, r):
        return last(begin(*picture), piece(*kept), shift(r))

    def test_0_stands_first(self):
        self.assertEqual(ask(begin(*SPOT), piece(*SPOT), shift(0)), [[0], [0], [0, 0, 0, 0, 25]])

    def test_below_0_at_0_and_above_0(self):
        for x in range(1, 4):
            for y in range(1, 4):
                # With r 1 no lit pixel leaves the other picture, so only lit on lit fits wholly.
                told = self.told(SPOT, spot_at(x, y), 1)
                self.assertEqual(told, [0, 2 - x, 2 - y, 0, (5 - abs(2 - x)) * (5 - abs(2 - y))])
        rising = (3, 3, [10, 20, 30, 40, 50, 60, 70, 80, 90])
        self.assertEqual(self.told(rising, (2, 2, [50, 60, 80, 90]), 1), [0, 1, 1, 0, 4])
        self.assertEqual(self.told(rising, (3, 3, [0, 0, 0, 0, 10, 20, 0, 40, 50]), 1), [0, -1, -1, 0, 4])
        self.assertEqual(self.told(rising, (3, 3, [0, 0, 0, 20, 30, 0, 50, 60, 0]), 1), [0, 1, -1, 0, 4])
        self.assertEqual(self.told(rising, (3, 3, [0, 40, 50, 0, 70, 80, 0, 0, 0]), 1), [0, -1, 1, 0, 4])
        self.assertEqual(self.told(rising, rising, 1), [0, 0, 0, 0, 9])

    def test_just_x_and_just_y(self):
        line = (4, 1, [10, 20, 30, 40])
        self.assertEqual(self.told(line, (4, 1, [20, 30, 40, 90]), 1), [0, 1, 0, 0, 3])
        self.assertEqual(self.told(line, (4, 1, [90, 10, 20, 30]), 1), [0, -1, 0, 0, 3])
        column = (1, 4, [10, 20, 30, 40])
        self.assertEqual(self.told(column, (1, 4, [20, 30, 40, 90]), 1), [0, 0, 1, 0, 3])
        self.assertEqual(self.told(column, (1, 4, [90, 10, 20, 30]), 1), [0, 0, -1, 0, 3])

    def test_no_further_than_r(self):
        line = (16, 1, [10 * k for k in range(1, 17)])
        for r in range(9):
            for away in range(9):
                right = (16 - away, 1, line[2][away:])
                told = self.told(line, right, r)
                if away <= r:
                    self.assertEqual(told, [0, away, 0, 0, 16 - away])
                else:
                    self.assertEqual(told, [0, r, 0, (10 * (away - r)) ** 2 * (16 - away), 16 - away])

    def test_r_up_to_8(self):
        source = source_of(81)
        for r in range(9):
            picture = (5, 4, some_colours(source, 20))
            kept = (3, 6, some_colours(source, 18))
            self.assertEqual(self.told(picture, kept, r), shifted(picture, kept, r))

    def test_r_above_8_is_refused(self):
        for r in [9, 10, 100, LARGEST]:
            self.assertEqual(ask(begin(*SPOT), piece(*SPOT), shift(r), FIND), [[0], [0], [-1], [0, 0, 0]])
            self.assertEqual(colours_seen([begin(*SPOT), piece(*SPOT), shift(r)], 5, 5), SPOT[2])

    def test_with_r_0_only_the_first_pixels_lie_on_one_another(self):
        self.assertEqual(self.told((2, 2, [1, 2, 3, 4]), (1, 2, [4, 5]), 0), [0, 0, 0, 9 + 4, 2])
        self.assertEqual(self.told((2, 2, [1, 2, 3, 4]), (3, 1, [4, 5, 6]), 0), [0, 0, 0, 9 + 9, 2])

    def test_at_the_beginning(self):
        self.assertEqual(ask(shift(0), shift(8), shift(9)), [[0, 0, 0, 0, 1], [0, 0, 0, 0, 1], [-1]])

    def test_changes_nothing(self):
        calls = [begin(3, 1, [10, 20, 30]), piece(2, 1, [30, 20])]
        self.assertEqual(ask(*calls, shift(2), shift(2), FIND)[2:], [[0, 2, 0, 0, 1]] * 2 + [[200, 1, 0]])
        self.assertEqual(colours_seen([*calls, shift(2)], 3, 1), [10, 20, 30])

    def test_in_the_picture_as_it_is_now(self):
        calls = [begin(4, 1, [10, 20, 30, 40]), piece(2, 1, [0, 255])]
        self.assertEqual(last(*calls, part(20), shift(1)), [0, 1, 0, 0, 2])

    def test_what_is_cut_out_lies_where_it_was(self):
        call = begin(16, 16, list(range(256)))
        for x, y in [(0, 0), (8, 8), (3, 5), (8, 0), (0, 8)]:
            self.assertEqual(last(call, cut(x, y, 4, 3), shift(8)), [0, x, y, 0, 12])

    def test_against_the_second_way(self):
        source = source_of(82)
        for number in range(80):
            picture = some_picture(source)
            kept = some_picture(source)
            r = source.randrange(6)
            self.assertEqual(self.told(picture, kept, r), shifted(picture, kept, r))

    def test_the_largest(self):
        source = source_of(83)
        for number in range(2):
            picture = (16, 16, some_colours(source, 256))
            kept = (16, 16, some_colours(source, 256))
            self.assertEqual(self.told(picture, kept, 8), shifted(picture, kept, 8))
        self.assertEqual(self.told((16, 16, [255] * 256), (16, 16, [0] * 256), 8), [0, -8, -8, 64 * 255 * 255, 64])


class LargerThanThePicture(unittest.TestCase):
    def test_wider_higher_and_both(self):
        source = source_of(84)
        for w, h in SIZES:
            for large_w, large_h in SIZES:
                picture = (w, h, some_colours(source, w * h))
                kept = (large_w, large_h, some_colours(source, large_w * large_h))
                told = last(begin(*picture), piece(*kept), shift(3))
                self.assertEqual(told, shifted(picture, kept, 3))

    def test_the_picture_is_found_within_the_piece(self):
        calls = [begin(2, 1, [70, 80]), piece(5, 3, [1, 2, 3, 4, 5, 6, 7, 8, 70, 80, 9, 9, 9, 9, 9])]
        self.assertEqual(ask(*calls, FIND, shift(3), shift(2))[2:4], [[-3], [0, -3, -1, 0, 2]])

    def test_one_pixel_under_a_large_piece(self):
        self.assertEqual(last(begin(1, 1, [44]), piece(9, 9, list(range(81))), shift(8)), [0, -8, -4, 0, 1])


class WhereNoPixelHasBoth(unittest.TestCase):
    def test_such_shifts_do_not_count(self):
        # All shifts but (0, 0) lay the one pixel beside the other.
        for r in range(9):
            self.assertEqual(last(begin(1, 1, [50]), piece(1, 1, [60]), shift(r)), [0, 0, 0, 100, 1])

    def test_the_ends_of_both(self):
        # The piece lies on the picture from dx -1 to 2, and with a dy but 0 nowhere.
        calls = [begin(3, 1, [10, 20, 99]), piece(2, 1, [99, 10])]
        self.assertEqual(ask(*calls, shift(1), shift(2), shift(8))[2:], [[0, -1, 0, 0, 1]] * 3)
        calls = [begin(3, 1, [10, 20, 99]), piece(2, 1, [99, 11])]
        self.assertEqual(ask(*calls, shift(1), shift(2), shift(8))[2:],
                         [[0, -1, 0, 1, 1], [0, 2, 0, 0, 1], [0, 2, 0, 0, 1]])


class SeveralAsGood(unittest.TestCase):
    def test_the_least_dy_then_the_least_dx(self):
        same = (5, 5, [7] * 25)
        for r in range(5):
            self.assertEqual(last(begin(*same), piece(*same), shift(r)), [0, -r, -r, 0, (5 - r) ** 2])

    def test_the_least_dy_goes_before_the_least_dx(self):
        # 9 lies on 9 at (2, 0) and at (0, 2), and nowhere else.
        calls = [begin(3, 3, [1, 1, 9, 1, 1, 1, 9, 1, 1]), piece(1, 1, [9])]
        self.assertEqual(last(*calls, shift(2)), [0, 2, 0, 0, 1])
        # And here at (-2, 0) and at (0, -2).
        calls = [begin(1, 1, [9]), piece(3, 3, [1, 1, 9, 1, 1, 1, 9, 1, 1])]
        self.assertEqual(last(*calls, shift(2)), [0, 0, -2, 0, 1])

    def test_different_squares_and_different_numbers_of_pixels(self):
        # The squares by how many: at -1 and at 1 25 by 1, at 0 50 by 2.
        calls = [begin(2, 1, [10, 10]), piece(2, 1, [5, 15])]
        self.assertEqual(ask(*calls, shift(0), shift(1))[2:], [[0, 0, 0, 50, 2], [0, -1, 0, 25, 1]])
        # 27 by 3, 18 by 2 and 9 by 1 are as little.
        calls = [begin(3, 1, [10, 10, 10]), piece(3, 1, [7, 13, 7])]
        self.assertEqual(last(*calls, shift(0)), [0, 0, 0, 27, 3])
        self.assertEqual(last(*calls, shift(1)), [0, -1, 0, 18, 2])
        self.assertEqual(last(*calls, shift(2)), [0, -2, 0, 9, 1])
        self.assertEqual(last(*calls, shift(8)), [0, -2, 0, 9, 1])

    def test_by_how_many_not_the_squares_alone(self):
        # At 0 they are 57 by 3, at -1 and at 1 only 41, but by 2.
        picture = (3, 1, [50, 50, 50])
        kept = (3, 1, [54, 55, 54])
        told = last(begin(*picture), piece(*kept), shift(1))
        self.assertEqual(told, [0, 0, 0, 16 + 25 + 16, 3])
        self.assertLess(laid_on(picture, kept, 1, 0)[0], told[3])

    def test_many_nearly_as_good(self):
        source = source_of(85)
        for number in range(40):
            picture = (4, 4, [source.choice([0, 1]) for place in range(16)])
            kept = (4, 4, [source.choice([1, 2]) for place in range(16)])
            self.assertEqual(last(begin(*picture), piece(*kept), shift(3)), shifted(picture, kept, 3))

    def test_none_is_better(self):
        source = source_of(86)
        for number in range(30):
            picture = some_picture(source)
            kept = some_picture(source)
            first, best_x, best_y, squares, count = last(begin(*picture), piece(*kept), shift(4))
            self.assertEqual((first, squares, count), (0, *laid_on(picture, kept, best_x, best_y)))
            for dx in range(-4, 5):
                for dy in range(-4, 5):
                    fit = laid_on(picture, kept, dx, dy)
                    if fit[1]:
                        self.assertGreaterEqual((Fraction(*fit), dy, dx), (Fraction(squares, count), best_y, best_x))


def some_picture(source):
    w = source.randrange(1, 6)
    h = source.randrange(1, 6)
    return w, h, some_colours(source, w * h)


if __name__ == "__main__":
    unittest.main()
