"""Call 4 (rank), point 1, and point 5 for the rank."""

import unittest

from helper import (LARGEST, SIZES, ask, begin, changed, colours_seen, last, rank, ranked, some_colours,
                    source_of, there, windows_by_steps)

RANKS = [(0, 1), (1, 1), (1, 2), (1, 3), (2, 3), (0, 7), (7, 7), (LARGEST, LARGEST), (LARGEST - 1, LARGEST),
         (1, LARGEST), (2 ** 63, LARGEST), (2 ** 63 - 1, LARGEST)]


class Rank(unittest.TestCase):
    def check(self, w, h, colours, sort, r, p, q):
        call = begin(w, h, colours)
        expected = ranked(w, h, colours, sort, r, p, q)
        self.assertEqual(last(call, rank(sort, r, p, q)), [changed(colours, expected)])
        self.assertEqual(colours_seen([call, rank(sort, r, p, q)], w, h), expected)

    def test_least_middle_greatest(self):
        call = begin(3, 1, [50, 10, 90])
        self.assertEqual(colours_seen([call, rank(0, 2, 0, 1)], 3, 1), [10, 10, 10])
        self.assertEqual(colours_seen([call, rank(0, 2, 1, 2)], 3, 1), [50, 50, 50])
        self.assertEqual(colours_seen([call, rank(0, 2, 1, 1)], 3, 1), [90, 90, 90])
        self.assertEqual(ask(call, rank(0, 2, 1, 2)), [[0], [2]])

    def test_the_number_is_rounded_down(self):
        call = begin(2, 1, [10, 90])
        self.assertEqual(colours_seen([call, rank(0, 1, 1, 2)], 2, 1), [10, 10])
        self.assertEqual(colours_seen([call, rank(0, 1, 99, 100)], 2, 1), [10, 10])
        self.assertEqual(colours_seen([call, rank(0, 1, 100, 100)], 2, 1), [90, 90])

    def test_a_lone_speck_goes(self):
        speck = [7] * 12 + [200] + [7] * 12
        self.assertEqual(ask(begin(5, 5, speck), rank(0, 1, 1, 2)), [[0], [1]])
        self.assertEqual(colours_seen([begin(5, 5, speck), rank(0, 1, 1, 2)], 5, 5), [7] * 25)

    def test_a_place_taken_twice_counts_twice(self):
        call = begin(3, 1, [0, 30, 90])
        self.assertEqual(colours_seen([call, rank(1, 1, 1, 2)], 3, 1), [0, 30, 90])
        self.assertEqual(colours_seen([call, rank(2, 1, 1, 2)], 3, 1), [30, 30, 30])
        self.assertEqual(colours_seen([call, rank(3, 1, 1, 2)], 3, 1), [30, 30, 30])

    def test_each_sort_and_reach_on_small_pictures(self):
        source = source_of(13)
        for w, h in [(1, 1), (2, 1), (1, 3), (2, 2), (3, 2)]:
            for sort in range(4):
                for r in range(5):
                    p, q = source.choice(RANKS)
                    self.check(w, h, some_colours(source, w * h), sort, r, p, q)

    def test_how_many_change_on_all_sizes(self):
        source = source_of(14)
        for w, h in SIZES:
            for sort in range(4):
                for r in range(5):
                    p, q = source.choice(RANKS)
                    colours = some_colours(source, w * h)
                    expected = ranked(w, h, colours, sort, r, p, q)
                    self.assertEqual(last(begin(w, h, colours), rank(sort, r, p, q)), [changed(colours, expected)])

    def test_numbers_as_large_as_there_are(self):
        for p, q in RANKS:
            self.check(3, 2, [9, 200, 3, 77, 78, 255], 1, 2, p, q)

    def test_refusals(self):
        call = begin(2, 1, [0, 100])
        wrong = [(4, 0, 1, 2), (0, 5, 1, 2), (LARGEST, 0, 1, 2), (0, LARGEST, 1, 2), (0, 1, 0, 0), (0, 1, 1, 0),
                 (0, 1, 2, 1), (0, 1, LARGEST, LARGEST - 1), (0, 1, LARGEST, 0), (4, 5, 1, 0),
                 (LARGEST, LARGEST, LARGEST, LARGEST)]
        for sort, r, p, q in wrong:
            self.assertEqual(ask(call, rank(sort, r, p, q)), [[0], [-1]])
            self.assertEqual(colours_seen([call, rank(sort, r, p, q)], 2, 1), [0, 100])


class SoManyBelow(unittest.TestCase):
    """Point 1."""

    def test_one_of_its_windows_and_so_many_below(self):
        source = source_of(15)
        for sort in range(4):
            for r in range(5):
                for p, q in [(0, 1), (1, 4), (1, 2), (3, 4), (1, 1)]:
                    colours = some_colours(source, 12)
                    seen = colours_seen([begin(4, 3, colours), rank(sort, r, p, q)], 4, 3)
                    windows = windows_by_steps(4, 3, colours, sort, r)
                    for colour, window in zip(seen, windows):
                        self.check_one(colour, there(window), p, q)

    def check_one(self, colour, window, p, q):
        number = p * (len(window) - 1) // q
        self.assertIn(colour, window)
        self.assertLessEqual(len([other for other in window if other < colour]), number)
        self.assertGreater(len([other for other in window if other <= colour]), number)


class NothingChanges(unittest.TestCase):
    """Point 5 for the rank."""

    def test_a_window_of_one_pixel(self):
        source = source_of(16)
        for w, h in SIZES:
            call = begin(w, h, some_colours(source, w * h))
            for sort in range(4):
                for p, q in RANKS:
                    self.assertEqual(last(call, rank(sort, 0, p, q)), [0])
        for r in range(5):
            self.assertEqual(last(begin(1, 1, [77]), rank(0, r, 1, 2)), [0])

    def test_where_all_are_the_same(self):
        for w, h in SIZES:
            call = begin(w, h, [131] * (w * h))
            for sort in range(4):
                self.assertEqual(last(call, rank(sort, 4, 1, 2)), [0])
                self.assertEqual(last(call, rank(sort, 1, 1, 1)), [0])


if __name__ == "__main__":
    unittest.main()
