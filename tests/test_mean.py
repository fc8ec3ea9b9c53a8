"""Call 3 (mean), the windows and their edges, and point 5 for the mean."""

import unittest

from helper import (LARGEST, SIZES, ask, begin, changed, colours_seen, last, mean, meant, place_by_steps,
                    some_colours, source_of)
from throughwindows.windows import taken_place


class Edges(unittest.TestCase):
    def test_as_the_document_tells(self):
        self.assertEqual([taken_place(0, place, 5) for place in [-2, -1, 0, 4, 5]], [None, None, 0, 4, None])
        self.assertEqual([taken_place(1, place, 5) for place in [-2, -1, 0, 4, 5, 6]], [0, 0, 0, 4, 4, 4])
        self.assertEqual([taken_place(2, place, 5) for place in [-2, -1, 0, 4, 5, 6]], [2, 1, 0, 4, 3, 2])
        self.assertEqual([taken_place(3, place, 5) for place in [-2, -1, 0, 4, 5, 6]], [3, 4, 0, 4, 0, 1])

    def test_as_often_as_needed(self):
        self.assertEqual([taken_place(2, place, 2) for place in range(-4, 6)], [0, 1, 0, 1, 0, 1, 0, 1, 0, 1])
        self.assertEqual([taken_place(2, place, 3) for place in range(-4, 7)], [0, 1, 2, 1, 0, 1, 2, 1, 0, 1, 2])
        self.assertEqual([taken_place(3, place, 3) for place in range(-4, 7)], [2, 0, 1, 2, 0, 1, 2, 0, 1, 2, 0])

    def test_one_pixel_is_all_there_is(self):
        for sort in [1, 2, 3]:
            self.assertEqual([taken_place(sort, place, 1) for place in range(-4, 5)], [0] * 9)

    def test_against_the_second_way(self):
        for sort in range(4):
            for side in range(1, 17):
                for place in range(-4, side + 4):
                    self.assertEqual(taken_place(sort, place, side), place_by_steps(sort, place, side))


class Mean(unittest.TestCase):
    def check(self, w, h, colours, sort, r):
        call = begin(w, h, colours)
        expected = meant(w, h, colours, sort, r)
        self.assertEqual(last(call, mean(sort, r)), [changed(colours, expected)])
        self.assertEqual(colours_seen([call, mean(sort, r)], w, h), expected)

    def test_each_sort_of_edge_by_hand(self):
        call = begin(3, 1, [0, 30, 90])
        self.assertEqual(colours_seen([call, mean(0, 1)], 3, 1), [15, 40, 60])
        self.assertEqual(colours_seen([call, mean(1, 1)], 3, 1), [10, 40, 70])
        self.assertEqual(colours_seen([call, mean(2, 1)], 3, 1), [20, 40, 50])
        self.assertEqual(colours_seen([call, mean(3, 1)], 3, 1), [40, 40, 40])

    def test_x_and_y_are_taken_each_by_itself(self):
        call = begin(2, 2, [0, 0, 0, 90])
        self.assertEqual(colours_seen([call, mean(0, 1)], 2, 2), [23, 23, 23, 23])
        self.assertEqual(colours_seen([call, mean(1, 1)], 2, 2), [10, 20, 20, 40])
        self.assertEqual(colours_seen([call, mean(2, 1)], 2, 2), [40, 20, 20, 10])
        self.assertEqual(colours_seen([call, mean(3, 1)], 2, 2), [40, 20, 20, 10])

    def test_a_half_is_rounded_up(self):
        call = begin(2, 1, [0, 1])
        self.assertEqual(ask(call, mean(0, 1)), [[0], [1]])
        self.assertEqual(colours_seen([call, mean(0, 1)], 2, 1), [1, 1])
        self.assertEqual(colours_seen([begin(2, 1, [2, 5]), mean(0, 4)], 2, 1), [4, 4])

    def test_less_than_a_half_is_rounded_down(self):
        self.assertEqual(colours_seen([begin(3, 1, [0, 0, 1]), mean(0, 2)], 3, 1), [0, 0, 0])
        self.assertEqual(colours_seen([begin(3, 1, [0, 1, 1]), mean(0, 2)], 3, 1), [1, 1, 1])

    def test_all_is_worked_out_of_the_picture_as_it_was(self):
        call = begin(4, 1, [0, 0, 0, 200])
        self.assertEqual(colours_seen([call, mean(0, 1)], 4, 1), [0, 0, 67, 100])

    def test_each_sort_and_reach_on_small_pictures(self):
        source = source_of(3)
        for w, h in [(1, 1), (1, 2), (2, 1), (2, 2), (3, 2), (2, 3), (1, 5)]:
            for sort in range(4):
                for r in range(5):
                    self.check(w, h, some_colours(source, w * h), sort, r)

    def test_how_many_change_on_all_sizes(self):
        source = source_of(4)
        for w, h in SIZES:
            for sort in range(4):
                for r in range(5):
                    colours = some_colours(source, w * h)
                    expected = meant(w, h, colours, sort, r)
                    self.assertEqual(last(begin(w, h, colours), mean(sort, r)), [changed(colours, expected)])

    def test_the_narrow_and_the_largest(self):
        source = source_of(5)
        for sort in range(4):
            self.check(1, 16, [source.randrange(256) for number in range(16)], sort, 4)
            self.check(16, 1, [source.randrange(256) for number in range(16)], sort, 3)
        self.check(16, 16, [source.randrange(256) for number in range(256)], 2, 4)

    def test_refusals(self):
        call = begin(2, 1, [0, 100])
        for sort, r in [(4, 0), (0, 5), (4, 5), (LARGEST, 0), (0, LARGEST), (LARGEST, LARGEST)]:
            self.assertEqual(ask(call, mean(sort, r)), [[0], [-1]])
            self.assertEqual(colours_seen([call, mean(sort, r)], 2, 1), [0, 100])


class NothingChanges(unittest.TestCase):
    """Point 5 for the mean."""

    def test_a_window_of_one_pixel(self):
        source = source_of(6)
        for w, h in SIZES:
            call = begin(w, h, some_colours(source, w * h))
            for sort in range(4):
                self.assertEqual(last(call, mean(sort, 0)), [0])
        for r in range(5):
            self.assertEqual(last(begin(1, 1, [77]), mean(0, r)), [0])

    def test_where_all_are_the_same(self):
        for w, h in SIZES:
            for colour in [0, 1, 128, 255]:
                call = begin(w, h, [colour] * (w * h))
                for sort in range(4):
                    self.assertEqual(last(call, mean(sort, 4), mean(sort, 1)), [0])
                    self.assertEqual(last(call, mean(sort, 4)), [0])


if __name__ == "__main__":
    unittest.main()
