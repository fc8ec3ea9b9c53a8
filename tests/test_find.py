"""Call 9 (find) and point 3."""

import unittest

from helper import (FIND, SIZES, ask, begin, colours_seen, cut, found, laid_on, last, mean, part, piece,
                    places_within, row, some_colours, source_of)

STEPS = (4, 3, [10, 20, 30, 40, 50, 60, 70, 80, 90, 100, 110, 120])


class Find(unittest.TestCase):
    def test_by_hand(self):
        self.assertEqual(ask(begin(*STEPS), piece(2, 1, [61, 68]), FIND), [[0], [0], [1 + 4, 1, 1]])
        self.assertEqual(ask(begin(*STEPS), piece(2, 2, [70, 80, 110, 120]), FIND), [[0], [0], [0, 2, 1]])
        self.assertEqual(last(begin(*STEPS), piece(1, 1, [61]), FIND), [1, 1, 1])
        self.assertEqual(last(begin(*STEPS), piece(1, 2, [255, 0]), FIND), [175 ** 2 + 120 ** 2, 3, 1])

    def test_the_squares_not_the_differences(self):
        # 0 and 6 are 6 away in all, 4 and 4 are 8 away: 36 against 32.
        self.assertEqual(last(begin(5, 1, [0, 6, 99, 4, 4]), piece(2, 1, [0, 0]), FIND), [32, 3, 0])

    def test_above_and_below_count_alike(self):
        self.assertEqual(last(begin(2, 1, [103, 98]), piece(1, 1, [100]), FIND), [4, 1, 0])
        self.assertEqual(last(begin(2, 1, [97, 102]), piece(1, 1, [100]), FIND), [4, 1, 0])

    def test_as_badly_as_can_be(self):
        self.assertEqual(last(begin(16, 16, [255] * 256), piece(16, 16, [0] * 256), FIND), [256 * 255 * 255, 0, 0])

    def test_at_the_last_place(self):
        self.assertEqual(last(begin(3, 2, [0, 0, 0, 0, 0, 9]), piece(1, 1, [9]), FIND), [0, 2, 1])
        self.assertEqual(last(begin(16, 16, [0] * 255 + [9]), piece(1, 1, [9]), FIND), [0, 15, 15])
        self.assertEqual(last(begin(3, 3, [0] * 7 + [7, 9]), piece(2, 2, [0, 0, 7, 9]), FIND), [0, 1, 1])

    def test_at_the_beginning(self):
        self.assertEqual(ask(FIND), [[0, 0, 0]])
        self.assertEqual(last(begin(2, 2, [5, 9, 3, 3]), FIND), [9, 0, 1])

    def test_changes_nothing(self):
        calls = [begin(*STEPS), piece(2, 1, [61, 68])]
        self.assertEqual(ask(*calls, FIND, FIND)[2:], [[5, 1, 1]] * 2)
        self.assertEqual(colours_seen([*calls, FIND], 4, 3), STEPS[2])

    def test_in_the_picture_as_it_is_now(self):
        calls = [begin(*STEPS), piece(2, 1, [0, 255])]
        self.assertEqual(last(*calls, part(60), FIND), [0, 1, 1])
        self.assertEqual(last(*calls, part(61), part(255), FIND), [255 * 255, 0, 0])

    def test_against_the_second_way(self):
        source = source_of(71)
        for number in range(60):
            picture = some_picture(source, 7)
            kept = some_picture(source, 5)
            self.assertEqual(last(begin(*picture), piece(*kept), FIND), found(picture, kept))

    def test_all_sizes_in_all_sizes(self):
        source = source_of(72)
        for w, h in SIZES:
            for small_w, small_h in SIZES:
                picture = (w, h, some_colours(source, w * h))
                kept = (small_w, small_h, some_colours(source, small_w * small_h))
                self.assertEqual(last(begin(*picture), piece(*kept), FIND), found(picture, kept))


class TheFirstOfSeveral(unittest.TestCase):
    def test_the_least_y_goes_before_the_least_x(self):
        # 9 lies at (2, 0) and at (0, 1): row by row (2, 0) comes first.
        self.assertEqual(last(begin(3, 2, [0, 0, 9, 9, 0, 0]), piece(1, 1, [9]), FIND), [0, 2, 0])

    def test_in_a_row_the_least_x(self):
        self.assertEqual(last(begin(4, 1, [0, 9, 9, 9]), piece(1, 1, [9]), FIND), [0, 1, 0])

    def test_equally_badly(self):
        self.assertEqual(last(begin(4, 1, [0, 52, 48, 50]), piece(1, 1, [51]), FIND), [1, 1, 0])
        self.assertEqual(last(begin(2, 2, [40, 60, 60, 40]), piece(1, 1, [50]), FIND), [100, 0, 0])

    def test_where_all_are_the_same(self):
        for w, h in SIZES:
            self.assertEqual(last(begin(w, h, [7] * (w * h)), piece(1, 1, [9]), FIND), [4, 0, 0])
        self.assertEqual(last(begin(5, 5, [7] * 25), piece(3, 2, [7] * 6), FIND), [0, 0, 0])

    def test_larger_pieces(self):
        self.assertEqual(last(begin(3, 3, [1, 5, 6, 5, 6, 1, 6, 1, 5]), piece(2, 1, [5, 6]), FIND), [0, 1, 0])


class TooLarge(unittest.TestCase):
    def test_as_large_as_the_picture(self):
        self.assertEqual(last(begin(*STEPS), piece(*STEPS), FIND), [0, 0, 0])
        self.assertEqual(last(begin(*STEPS), piece(4, 3, [10] * 12), FIND), [sum(k * k * 100 for k in range(12)), 0, 0])

    def test_as_wide_or_as_high_alone(self):
        self.assertEqual(last(begin(*STEPS), piece(4, 1, [50, 60, 70, 81]), FIND), [1, 0, 1])
        self.assertEqual(last(begin(*STEPS), piece(1, 3, [30, 70, 111]), FIND), [1, 2, 0])

    def test_wider_only(self):
        self.assertEqual(ask(begin(*STEPS), piece(5, 3, [0] * 15), FIND), [[0], [0], [-3]])
        self.assertEqual(ask(begin(*STEPS), piece(5, 1, [0] * 5), FIND), [[0], [0], [-3]])
        self.assertEqual(last(piece(2, 1, [0, 0]), FIND), [-3])

    def test_higher_only(self):
        self.assertEqual(ask(begin(*STEPS), piece(4, 4, [0] * 16), FIND), [[0], [0], [-3]])
        self.assertEqual(ask(begin(*STEPS), piece(1, 4, [0] * 4), FIND), [[0], [0], [-3]])
        self.assertEqual(last(piece(1, 2, [0, 0]), FIND), [-3])

    def test_wider_and_higher(self):
        self.assertEqual(ask(begin(*STEPS), piece(16, 16, [0] * 256), FIND), [[0], [0], [-3]])

    def test_after_a_refusal_all_is_as_it_was(self):
        calls = [begin(*STEPS), piece(5, 1, [10, 20, 30, 40, 9])]
        self.assertEqual(ask(*calls, FIND, FIND, row(0))[2:], [[-3], [-3], [4, 10, 20, 30, 40]])
        self.assertEqual(colours_seen([*calls, FIND], 4, 3), STEPS[2])
        self.assertEqual(last(*calls, FIND, [10, 0]), [0, 0, 0, 0, 4])


class NowhereBetter(unittest.TestCase):
    """Point 3."""

    def test_nowhere_it_fits_better(self):
        source = source_of(73)
        for number in range(60):
            picture = some_picture(source, 6)
            kept = (min(picture[0], 3), min(picture[1], 2), None)
            kept = (kept[0], kept[1], some_colours(source, kept[0] * kept[1]))
            badly, x, y = last(begin(*picture), piece(*kept), FIND)
            self.assertEqual(laid_on(picture, kept, x, y), (badly, len(kept[2])))
            for place in places_within(picture, kept):
                self.assertGreaterEqual(laid_on(picture, kept, *place)[0], badly)
                if (place[1], place[0]) < (y, x):
                    self.assertGreater(laid_on(picture, kept, *place)[0], badly)

    def test_cut_out_and_looked_for_it_fits_wholly(self):
        source = source_of(74)
        for number in range(20):
            w, h, colours = some_picture(source, 6)
            for x in range(w):
                for y in range(h):
                    small_w = source.randrange(1, w - x + 1)
                    small_h = source.randrange(1, h - y + 1)
                    told = last(begin(w, h, colours), cut(x, y, small_w, small_h), FIND)
                    self.assertEqual(told[0], 0)
                    self.assertLessEqual((told[2], told[1]), (y, x))

    def test_where_each_pixel_is_another_it_is_found_where_it_was(self):
        call = begin(16, 16, list(range(256)))
        for x, y, w, h in [(0, 0, 1, 1), (15, 15, 1, 1), (3, 4, 5, 6), (0, 0, 16, 16), (8, 0, 8, 16), (0, 15, 16, 1)]:
            self.assertEqual(ask(call, cut(x, y, w, h), FIND)[1:], [[w * h], [0, x, y]])

    def test_in_a_changed_picture_too(self):
        call = begin(4, 4, [9, 100, 7, 255, 3, 80, 0, 17, 60, 4, 4, 4, 90, 12, 33, 1])
        self.assertEqual(last(call, mean(3, 1), cut(1, 2, 3, 2), FIND), [0, 1, 2])


def some_picture(source, largest):
    w = source.randrange(1, largest + 1)
    h = source.randrange(1, largest + 1)
    return w, h, some_colours(source, w * h)


if __name__ == "__main__":
    unittest.main()
