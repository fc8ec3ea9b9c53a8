"""Call 8 (part)."""

import unittest

from helper import (LARGEST, PARTING, SIZES, SPREAD, ask, begin, changed, colours_seen, last, part, some_colours,
                    source_of)


class Part(unittest.TestCase):
    call = begin(3, 2, [0, 1, 100, 101, 254, 255])

    def seen(self, v):
        return colours_seen([self.call, part(v)], 3, 2)

    def test_up_to_v_0_and_above_255(self):
        self.assertEqual(self.seen(100), [0, 0, 0, 255, 255, 255])
        self.assertEqual(self.seen(99), [0, 0, 255, 255, 255, 255])
        self.assertEqual(last(self.call, part(100)), [4])
        self.assertEqual(last(self.call, part(99)), [4])

    def test_at_0(self):
        self.assertEqual(self.seen(0), [0, 255, 255, 255, 255, 255])
        self.assertEqual(last(self.call, part(0)), [4])

    def test_at_254_and_255(self):
        self.assertEqual(self.seen(254), [0, 0, 0, 0, 0, 255])
        self.assertEqual(last(self.call, part(254)), [4])
        self.assertEqual(self.seen(255), [0] * 6)
        self.assertEqual(last(self.call, part(255)), [5])

    def test_above_255_it_is_refused(self):
        for v in [256, 257, 1000, LARGEST]:
            self.assertEqual(ask(self.call, part(v)), [[0], [-1]])
            self.assertEqual(self.seen(v), [0, 1, 100, 101, 254, 255])

    def test_what_is_0_and_255_already_is_no_change(self):
        call = begin(2, 2, [0, 255, 255, 0])
        for v in [0, 1, 100, 254]:
            self.assertEqual(last(call, part(v)), [0])
        self.assertEqual(last(call, part(255)), [2])

    def test_one_pixel_at_the_beginning(self):
        self.assertEqual(ask(part(0), part(255), part(256)), [[0], [0], [-1]])

    def test_at_the_best_parting(self):
        call = begin(4, 1, [10, 200, 12, 190])
        v = last(call, PARTING)[0]
        self.assertEqual(v, 12)
        self.assertEqual(ask(call, part(v), SPREAD)[1:], [[4], [2, 0, 2, 255, 2]])

    def test_each_v_on_all_sizes(self):
        source = source_of(61)
        for w, h in SIZES:
            colours = some_colours(source, w * h)
            for v in range(256):
                expected = []
                for colour in colours:
                    expected.append(0 if colour < v or colour == v else 255)
                self.assertEqual(last(begin(w, h, colours), part(v)), [changed(colours, expected)])
            self.assertEqual(colours_seen([begin(w, h, colours), part(v)], w, h), expected)


if __name__ == "__main__":
    unittest.main()
