"""Call 13 (cut)."""

import unittest

from helper import (EVEN, FIND, LARGEST, ask, begin, colours_seen, cut, cut_from, found, last, mean, part, piece,
                    shift, shifted, source_of, weigh)

STEPS = (4, 3, [10, 20, 30, 40, 50, 60, 70, 80, 90, 100, 110, 120])


class Cut(unittest.TestCase):
    def check(self, x, y, w, h):
        """Each pixel of STEPS is another, so only the very part is found with 0, and only there."""
        self.assertEqual(ask(begin(*STEPS), cut(x, y, w, h), FIND), [[0], [w * h], [0, x, y]])

    def test_each_part(self):
        for x in range(4):
            for y in range(3):
                for w in range(1, 5 - x):
                    for h in range(1, 4 - y):
                        self.check(x, y, w, h)

    def test_the_piece_is_this_part(self):
        # Black under the piece, so the squares are those of its colours.
        black = weigh(0, 1, 0, 0, [0], [0])
        calls = [begin(*STEPS), cut(1, 1, 2, 2), black]
        self.assertEqual(last(*calls, FIND), [60 ** 2 + 70 ** 2 + 100 ** 2 + 110 ** 2, 0, 0])
        self.assertEqual(last(*calls, shift(0)), [0, 0, 0, 60 ** 2 + 70 ** 2 + 100 ** 2 + 110 ** 2, 4])

    def test_its_sides_are_not_mixed_up(self):
        wide = [begin(4, 4, list(range(16))), cut(0, 1, 4, 1)]
        high = [begin(4, 4, list(range(16))), cut(1, 0, 1, 4)]
        self.assertEqual(last(*wide, shift(0)), [0, 0, 0, 4 * 16, 4])
        self.assertEqual(last(*high, shift(0)), [0, 0, 0, 4, 4])

    def test_one_pixel(self):
        self.assertEqual(ask(cut(0, 0, 1, 1), FIND), [[1], [0, 0, 0]])
        self.check(0, 0, 1, 1)
        self.check(3, 2, 1, 1)

    def test_the_whole_picture(self):
        self.check(0, 0, 4, 3)
        call = begin(16, 16, list(range(256)))
        self.assertEqual(ask(call, cut(0, 0, 16, 16), FIND)[1:], [[256], [0, 0, 0]])

    def test_at_each_edge(self):
        self.check(0, 0, 4, 1)
        self.check(0, 2, 4, 1)
        self.check(0, 0, 1, 3)
        self.check(3, 0, 1, 3)
        self.check(2, 1, 2, 2)

    def test_changes_not_the_picture(self):
        self.assertEqual(colours_seen([begin(*STEPS), cut(1, 1, 2, 2)], 4, 3), STEPS[2])

    def test_from_the_picture_as_it_is_now(self):
        self.assertEqual(ask(begin(*STEPS), part(60), cut(1, 1, 2, 1), FIND)[1:], [[12], [2], [0, 1, 1]])

    def test_the_last_cut_is_kept(self):
        self.assertEqual(last(begin(*STEPS), cut(0, 0, 2, 2), cut(3, 1, 1, 2), FIND), [0, 3, 1])
        self.assertEqual(last(begin(*STEPS), piece(9, 9, [5] * 81), cut(3, 1, 1, 2), FIND), [0, 3, 1])
        self.assertEqual(last(begin(*STEPS), cut(3, 1, 1, 2), piece(1, 1, [21]), FIND), [1, 1, 0])

    def test_against_the_second_way(self):
        source = source_of(101)
        for number in range(200):
            x, y = source.randrange(6), source.randrange(5)
            w, h = source.randrange(6), source.randrange(5)
            kept = cut_from(STEPS, x, y, w, h)
            black = weigh(0, 1, 0, 0, [0], [0])
            told = ask(begin(*STEPS), cut(x, y, w, h), black, FIND)
            if kept is None:
                self.assertEqual(told[1:], [[-1], [12], [0, 0, 0]])
            else:
                self.assertEqual(told[1:], [[w * h], [12], found((4, 3, [0] * 12), kept)])


class StaysAsItIs(unittest.TestCase):
    """A cut piece is a picture of its own."""

    changes = [part(60), mean(1, 1), EVEN, weigh(0, 1, 5, 0, [1], [0]), [4, 3, 1, 1, 2]]

    def test_when_the_picture_changes_afterwards(self):
        kept = cut_from(STEPS, 1, 1, 2, 2)
        for change in self.changes:
            calls = [begin(*STEPS), cut(1, 1, 2, 2), change]
            after = (4, 3, colours_seen(calls, 4, 3))
            self.assertNotEqual(after, STEPS)
            self.assertEqual(last(*calls, FIND), found(after, kept))
            self.assertEqual(last(*calls, shift(2)), shifted(after, kept, 2))

    def test_the_whole_picture_too(self):
        for change in self.changes:
            calls = [begin(*STEPS), cut(0, 0, 4, 3), change]
            after = (4, 3, colours_seen(calls, 4, 3))
            self.assertEqual(last(*calls, FIND), found(after, STEPS))
            self.assertGreater(last(*calls, FIND)[0], 0)


class Refusals(unittest.TestCase):
    def check(self, x, y, w, h):
        calls = [begin(*STEPS), piece(2, 1, [71, 80]), cut(x, y, w, h)]
        self.assertEqual(ask(*calls, FIND), [[0], [0], [-1], [1, 2, 1]])
        self.assertEqual(colours_seen(calls, 4, 3), STEPS[2])

    def test_empty(self):
        for x, y in [(0, 0), (1, 1), (4, 0), (0, 3), (4, 3), (5, 5), (LARGEST, LARGEST)]:
            self.check(x, y, 0, 1)
            self.check(x, y, 1, 0)
            self.check(x, y, 0, 0)
            self.check(x, y, 0, LARGEST)
            self.check(x, y, LARGEST, 0)

    def test_beyond_an_edge(self):
        self.check(0, 0, 5, 3)
        self.check(0, 0, 4, 4)
        self.check(1, 0, 4, 1)
        self.check(0, 1, 1, 3)
        self.check(3, 2, 2, 1)
        self.check(3, 2, 1, 2)
        self.check(4, 0, 1, 1)
        self.check(0, 3, 1, 1)
        # Within by x as if it were y, and the other way round.
        self.check(0, 3, 4, 1)
        self.check(1, 0, 2, 4)

    def test_as_large_as_there_are(self):
        much = LARGEST
        for part_of in [(much, 0, 1, 1), (0, much, 1, 1), (0, 0, much, 1), (0, 0, 1, much), (much, much, much, much),
                        (much, 0, much, 1), (0, much, 1, much), (1, 0, much, 1), (0, 1, 1, much), (much, 0, 2, 1),
                        (2 ** 63, 0, 2 ** 63, 1), (0, 2 ** 63, 1, 2 ** 63), (2 ** 32, 0, 1, 1), (0, 2 ** 32, 1, 1)]:
            self.check(*part_of)

    def test_at_the_beginning(self):
        self.assertEqual(ask(cut(0, 0, 2, 1), cut(0, 0, 1, 2), cut(1, 0, 1, 1), cut(0, 0, 0, 0)), [[-1]] * 4)


if __name__ == "__main__":
    unittest.main()
