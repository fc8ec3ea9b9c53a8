"""Call 5 (weigh)."""

import unittest

from helper import (LARGEST, SIZES, ask, begin, changed, colours_seen, last, some_colours, source_of, weigh,
                    weighed)

NONE = [0] * 9


def nine(**at):
    """Nine weights, 0 but for those named by their place: a b c, d e f, g h i."""
    return [at.get(name, 0) for name in "abcdefghi"]


class Weigh(unittest.TestCase):
    def check(self, w, h, colours, *numbers):
        call = begin(w, h, colours)
        expected = weighed(w, h, colours, *numbers)
        self.assertEqual(last(call, weigh(*numbers)), [changed(colours, expected)])
        self.assertEqual(colours_seen([call, weigh(*numbers)], w, h), expected)

    def seen(self, w, h, colours, *numbers):
        return colours_seen([begin(w, h, colours), weigh(*numbers)], w, h)

    def test_one_weight(self):
        self.assertEqual(self.seen(3, 1, [10, 20, 30], 0, 1, 0, 0, [2], [0]), [20, 40, 60])
        self.assertEqual(self.seen(3, 1, [10, 20, 30], 0, 1, 0, 0, [5], [4]), [10, 20, 30])
        self.assertEqual(ask(begin(3, 1, [0, 20, 30]), weigh(0, 1, 0, 0, [2], [0])), [[0], [2]])

    def test_the_weights_stand_in_order(self):
        picture = [1, 2, 3, 4, 5, 6, 7, 8, 9]
        for place, name in enumerate("abcdefghi"):
            seen = self.seen(3, 3, picture, 0, 1, 0, 0, nine(**{name: 1}), NONE)
            self.assertEqual(seen[4], place + 1)

    def test_each_of_25_stands_in_order(self):
        picture = list(range(1, 26))
        for place in range(25):
            plus = [0] * 25
            plus[place] = 3
            self.assertEqual(self.seen(5, 5, picture, 0, 1, 0, 0, plus, [0] * 25)[12], 3 * (place + 1))

    def test_a_place_that_is_not_there_counts_nothing(self):
        right = nine(f=1)
        self.assertEqual(self.seen(3, 1, [10, 20, 30], 0, 1, 0, 0, right, NONE), [20, 30, 0])
        self.assertEqual(self.seen(3, 1, [10, 20, 30], 1, 1, 0, 0, right, NONE), [20, 30, 30])
        self.assertEqual(self.seen(3, 1, [10, 20, 30], 2, 1, 0, 0, right, NONE), [20, 30, 20])
        self.assertEqual(self.seen(3, 1, [10, 20, 30], 3, 1, 0, 0, right, NONE), [20, 30, 10])

    def test_the_divisor_stays_where_places_are_missing(self):
        self.assertEqual(self.seen(2, 1, [90, 90], 0, 9, 0, 0, [1] * 9, NONE), [20, 20])

    def test_a_half_is_rounded_up(self):
        self.assertEqual(self.seen(4, 1, [1, 2, 3, 4], 0, 2, 0, 0, [1], [0]), [1, 1, 2, 2])
        self.assertEqual(self.seen(4, 1, [1, 2, 3, 4], 0, 3, 0, 0, [1], [0]), [0, 1, 1, 1])

    def test_a_half_below_0_is_rounded_up(self):
        # -1/2, -1, -3/2, -2 become 0, -1, -1, -2.
        self.assertEqual(self.seen(4, 1, [1, 2, 3, 4], 0, 2, 10, 0, [0], [1]), [10, 9, 9, 8])
        # -1/3, -2/3, -1, -4/3 become 0, -1, -1, -1.
        self.assertEqual(self.seen(4, 1, [1, 2, 3, 4], 0, 3, 10, 0, [0], [1]), [10, 9, 9, 9])

    def test_added_less_taken_behind_the_rounding(self):
        self.assertEqual(self.seen(2, 1, [10, 20], 0, 1, 7, 3, [1], [0]), [14, 24])
        self.assertEqual(self.seen(2, 1, [10, 20], 0, 1, 3, 7, [1], [0]), [6, 16])
        self.assertEqual(self.seen(2, 1, [10, 20], 0, 10, 5, 0, [1], [0]), [6, 7])
        self.assertEqual(self.seen(2, 1, [0, 255], 0, 1, 1000, 1000, [1], [0]), [0, 255])

    def test_below_0_and_above_255(self):
        self.assertEqual(self.seen(3, 1, [0, 100, 255], 0, 1, 0, 100, [1], [0]), [0, 0, 155])
        self.assertEqual(self.seen(3, 1, [0, 100, 255], 0, 1, 200, 0, [1], [0]), [200, 255, 255])
        self.assertEqual(self.seen(3, 1, [0, 1, 255], 0, 1, 0, 0, [1000], [0]), [0, 255, 255])
        self.assertEqual(self.seen(3, 1, [0, 1, 255], 0, 1, 255, 0, [0], [1]), [255, 254, 0])
        self.assertEqual(self.seen(3, 1, [0, 1, 255], 0, 1, 255, 0, [0], [1000]), [255, 0, 0])
        self.assertEqual(self.seen(2, 1, [255, 254], 0, 1, 0, 0, [1], [0]), [255, 254])

    def test_edges_are_found(self):
        plus = nine(e=4)
        minus = nine(b=1, d=1, f=1, h=1)
        self.assertEqual(self.seen(4, 1, [10, 10, 60, 60], 1, 1, 0, 0, plus, minus), [0, 0, 50, 0])

    def test_all_sorts_on_small_pictures(self):
        source = source_of(23)
        for w, h in [(1, 1), (2, 1), (1, 3), (2, 2), (3, 2)]:
            for sort in range(4):
                for count in [1, 9, 25]:
                    self.check(w, h, some_colours(source, w * h), *self.some_numbers(source, sort, count))

    def test_how_many_change_on_all_sizes(self):
        source = source_of(24)
        for w, h in SIZES:
            for sort in range(4):
                for count in [1, 9, 25]:
                    colours = some_colours(source, w * h)
                    numbers = self.some_numbers(source, sort, count)
                    expected = weighed(w, h, colours, *numbers)
                    self.assertEqual(last(begin(w, h, colours), weigh(*numbers)), [changed(colours, expected)])

    def some_numbers(self, source, sort, count):
        largest = source.choice([1, 5, 1000])
        plus = [source.randrange(largest + 1) for number in range(count)]
        minus = [source.randrange(largest + 1) for number in range(count)]
        divisor = source.choice([1, 2, 3, count, 1000])
        return sort, divisor, source.randrange(256), source.randrange(256), plus, minus


class Refusals(unittest.TestCase):
    call = begin(2, 1, [0, 100])

    def check(self, refusal, *numbers):
        self.assertEqual(ask(self.call, weigh(*numbers)), [[0], [refusal]])
        self.assertEqual(colours_seen([self.call, weigh(*numbers)], 2, 1), [0, 100])

    def test_how_many_weights(self):
        for count in [0, 2, 4, 8, 10, 16, 24, 26, 49, 81, 1024]:
            self.check(-3, 0, 1, 0, 0, [1] * count, [1] * count)

    def test_minus_not_as_many(self):
        for more, less in [(1, 0), (1, 9), (9, 1), (9, 8), (25, 9), (9, 25), (1, 2), (2, 1), (0, 1), (25, 1024)]:
            self.check(-3, 0, 1, 0, 0, [1] * more, [0] * less)

    def test_numbers_too_large(self):
        for much in [1001, LARGEST]:
            self.check(-1, 0, much, 0, 0, [2], [0])
            self.check(-1, 0, 1, much, 0, [2], [0])
            self.check(-1, 0, 1, 0, much, [2], [0])
            self.check(-1, 0, 1, 0, 0, [much], [0])
            self.check(-1, 0, 1, 0, 0, [2], [much])
            self.check(-1, 0, 1, 0, 0, [much], [much])
            self.check(-1, 0, 1, 0, 0, [0] * 24 + [much], [0] * 25)
            self.check(-1, 0, 1, 0, 0, [0] * 9, [0] * 8 + [much])

    def test_the_sort_and_the_divisor(self):
        for sort in [4, LARGEST]:
            self.check(-1, sort, 1, 0, 0, [2], [0])
        self.check(-1, 0, 0, 0, 0, [2], [0])

    def test_1000_is_taken(self):
        self.assertEqual(last(self.call, weigh(3, 1000, 1000, 1000, [1000], [0])), [0])
        self.assertEqual(last(self.call, weigh(3, 1000, 1000, 1000, [0], [1000])), [1])
        self.assertEqual(last(self.call, weigh(3, 1000, 0, 0, [0] * 9, [1000] * 9)), [1])

    def test_how_many_are_told_before_how_large(self):
        self.check(-3, 4, 1, 0, 0, [], [])
        self.check(-3, 0, 0, 0, 0, [1], [])
        self.check(-3, 0, 1, 1001, 0, [1] * 8, [1] * 8)
        self.check(-3, 0, 1, 0, LARGEST, [1] * 9, [1] * 8)
        self.check(-3, LARGEST, LARGEST, LARGEST, LARGEST, [LARGEST] * 2, [LARGEST] * 2)


if __name__ == "__main__":
    unittest.main()
