"""Call 6 (even) and point 4."""

import unittest

from helper import EVEN, SIZES, ask, begin, changed, colours_seen, evened, last, some_colours, source_of


class Even(unittest.TestCase):
    def seen(self, w, h, colours):
        return colours_seen([begin(w, h, colours), EVEN], w, h)

    def test_by_hand(self):
        self.assertEqual(self.seen(4, 1, [10, 20, 30, 40]), [0, 85, 170, 255])
        self.assertEqual(self.seen(4, 1, [40, 10, 20, 10]), [255, 0, 128, 0])
        self.assertEqual(ask(begin(4, 1, [0, 20, 30, 255]), EVEN), [[0], [2]])

    def test_a_half_is_rounded_up(self):
        # 255 times 1 by 2 is 127 and a half.
        self.assertEqual(self.seen(3, 1, [1, 2, 3]), [0, 128, 255])

    def test_as_many_as_have_the_least_colour_are_left_out(self):
        self.assertEqual(self.seen(5, 1, [3, 3, 3, 4, 5]), [0, 0, 0, 128, 255])
        self.assertEqual(self.seen(5, 1, [3, 4, 4, 4, 5]), [0, 191, 191, 191, 255])

    def test_one_colour_stays(self):
        for w, h in SIZES:
            for colour in [0, 1, 200, 255]:
                self.assertEqual(last(begin(w, h, [colour] * (w * h)), EVEN), [0])
        self.assertEqual(self.seen(2, 2, [77] * 4), [77] * 4)
        self.assertEqual(self.seen(1, 1, [77]), [77])

    def test_against_the_second_way(self):
        source = source_of(33)
        for number in range(60):
            w, h = source.choice([(2, 1), (1, 3), (4, 3), (1, 16), (5, 2)])
            colours = some_colours(source, w * h)
            self.assertEqual(self.seen(w, h, colours), evened(colours))

    def test_how_many_change_on_all_sizes(self):
        source = source_of(34)
        for number in range(10):
            for w, h in SIZES:
                colours = some_colours(source, w * h)
                self.assertEqual(last(begin(w, h, colours), EVEN), [changed(colours, evened(colours))])


class DarkerStaysDarker(unittest.TestCase):
    """Point 4."""

    def test_nothing_darker_is_lighter_and_the_ends_are_reached(self):
        source = source_of(35)
        for number in range(60):
            colours = some_colours(source, 12)
            seen = colours_seen([begin(4, 3, colours), EVEN], 4, 3)
            for k in range(12):
                for other in range(12):
                    if colours[k] < colours[other]:
                        self.assertLessEqual(seen[k], seen[other])
            if len(set(colours)) > 1:
                self.assertEqual((min(seen), max(seen)), (0, 255))
                self.assertEqual(seen[colours.index(min(colours))], 0)
                self.assertEqual(seen[colours.index(max(colours))], 255)


if __name__ == "__main__":
    unittest.main()
