"""Call 7 (parting) and point 2."""

import unittest
from fractions import Fraction

from helper import PARTING, SIZES, apart_at, ask, begin, last, parted, some_colours, source_of


class Parting(unittest.TestCase):
    def test_by_hand(self):
        # 10 and 20 against 90: 30 times 1 less 90 times 2 is -150.
        self.assertEqual(ask(begin(3, 1, [20, 90, 10]), PARTING), [[0], [20, 150 * 150, 2]])

    def test_the_fraction_is_told_as_it_is(self):
        # 0, 0 against 2, 2: the square 64 and the product 4 are not made smaller.
        self.assertEqual(last(begin(4, 1, [0, 2, 0, 2]), PARTING), [0, 64, 4])

    def test_one_colour(self):
        for w, h in SIZES:
            for colour in [0, 1, 128, 255]:
                self.assertEqual(last(begin(w, h, [colour] * (w * h)), PARTING), [0, 0, 1])

    def test_the_least_of_those_as_good(self):
        self.assertEqual(last(begin(2, 1, [100, 200]), PARTING), [100, 10000, 1])
        # 0 against 5 and 10, and 0 and 5 against 10, are as far apart.
        self.assertEqual(last(begin(3, 1, [0, 5, 10]), PARTING), [0, 225, 2])

    def test_the_ends(self):
        self.assertEqual(last(begin(2, 1, [255, 0]), PARTING), [0, 255 * 255, 1])
        self.assertEqual(last(begin(2, 1, [255, 254]), PARTING), [254, 1, 1])
        largest = begin(16, 16, [0] * 128 + [255] * 128)
        self.assertEqual(last(largest, PARTING), [0, (128 * 128 * 255) ** 2, 128 * 128])

    def test_between_any_two_neighbours(self):
        for v in range(255):
            self.assertEqual(last(begin(2, 1, [v + 1, v]), PARTING), [v, 1, 1])

    def test_the_square_by_the_product_not_the_square_alone(self):
        colours = [0] + [4] * 3 + [5] * 3 + [11]
        squares = [apart_at(colours, v)[0] for v in range(256)]
        self.assertNotEqual(parted(colours)[0], squares.index(max(squares)))
        self.assertEqual(last(begin(8, 1, colours), PARTING), parted(colours))

    def test_changes_nothing(self):
        call = begin(3, 2, [9, 8, 200, 6, 5, 99])
        once = last(call, PARTING)
        self.assertEqual(ask(call, PARTING, PARTING, PARTING), [[0], once, once, once])

    def test_against_the_second_way(self):
        source = source_of(43)
        for number in range(25):
            for w, h in SIZES:
                colours = some_colours(source, w * h)
                self.assertEqual(last(begin(w, h, colours), PARTING), parted(colours))


class NoneIsBetter(unittest.TestCase):
    """Point 2."""

    def test_none_better_and_no_lesser_as_good(self):
        source = source_of(44)
        for number in range(60):
            colours = some_colours(source, 15)
            v, square, product = last(begin(5, 3, colours), PARTING)
            self.assertEqual((square, product), apart_at(colours, v))
            for other in range(256):
                far = Fraction(*apart_at(colours, other))
                self.assertLessEqual(far, Fraction(square, product))
                if other < v:
                    self.assertLess(far, Fraction(square, product))


if __name__ == "__main__":
    unittest.main()
