"""The interface: how the calls stand in the list, what is given back, and what is left alone."""

import contextlib
import io
import unittest

from helper import (EVEN, LARGEST, PARTING, ask, begin, changed, evened, mean, meant, parted, piece, rank, ranked,
                    some_colours, source_of, weigh, weighed)
from throughwindows.pixels import answers

REFUSED = [begin(0, 1, []), begin(1, 1, [256]), piece(17, 1, []), piece(1, 1, [1, 2]), mean(4, 0), mean(0, 5),
           rank(0, 0, 1, 0), rank(0, 0, 2, 1), weigh(0, 1, 0, 0, [], []), weigh(4, 1, 0, 0, [1], [0]),
           begin(LARGEST, LARGEST, [LARGEST] * 1024), weigh(0, 0, 0, 0, [1], [0])]


class Second:
    """A line worked out by the second way, call by call."""

    def __init__(self):
        self.w = 1
        self.h = 1
        self.colours = [0]

    def repaint(self, colours):
        count = changed(self.colours, colours)
        self.colours = colours
        return [count]

    def begin(self, w, h, colours):
        self.w = w
        self.h = h
        self.colours = colours
        return [0]


def some_call(source, second):
    """A call and what it answers, most often one that is taken."""
    choice = source.randrange(8)
    sort = source.randrange(4)
    r = source.randrange(5)
    picture = (second.w, second.h, second.colours)
    if choice == 0:
        w = source.randrange(1, 17)
        h = source.randrange(1, 17)
        colours = some_colours(source, w * h)
        return begin(w, h, colours), second.begin(w, h, colours)
    if choice == 1:
        return piece(2, 1, [source.randrange(256), 9]), [0]
    if choice == 2:
        return mean(sort, r), second.repaint(meant(*picture, sort, r))
    if choice == 3:
        q = source.randrange(1, 9)
        p = source.randrange(q + 1)
        return rank(sort, r, p, q), second.repaint(ranked(*picture, sort, r, p, q))
    if choice == 4:
        return some_weights(source, second, sort)
    if choice == 5:
        return EVEN, second.repaint(evened(second.colours))
    if choice == 6:
        return PARTING, parted(second.colours)
    bad = source.choice(REFUSED)
    return bad, ask(bad)[0]


def some_weights(source, second, sort):
    count = source.choice([1, 9, 25])
    plus = [source.randrange(4) for number in range(count)]
    minus = [source.randrange(3) for number in range(count)]
    numbers = (sort, source.randrange(1, 12), source.randrange(60), source.randrange(60), plus, minus)
    return weigh(*numbers), second.repaint(weighed(second.w, second.h, second.colours, *numbers))


class WhatIsGivenBack(unittest.TestCase):
    def test_how_many_then_these(self):
        self.assertEqual(answers(begin(3, 1, [20, 90, 10]) + PARTING + EVEN), [1, 0, 3, 20, 22500, 2, 1, 3])
        self.assertEqual(answers([7]), [3, 0, 0, 1])
        self.assertEqual(answers([6]), [1, 0])

    def test_as_the_readme_shows(self):
        self.assertEqual(answers([1, 3, 1, 3, 20, 90, 10, 7, 4, 0, 1, 1, 2]), [1, 0, 3, 20, 22500, 2, 1, 1])

    def test_a_refusal_is_its_number_alone(self):
        self.assertEqual(answers(begin(0, 0, [])), [1, -1])
        self.assertEqual(answers(begin(1, 1, [])), [1, -3])
        self.assertEqual(answers(mean(4, 4) + PARTING), [1, -1, 3, 0, 0, 1])

    def test_what_is_behind_refused_lists_is_read_on(self):
        line = weigh(0, 1, 0, 0, [6] * 1024, [7] * 3) + begin(17, 2, [1] * 34) + piece(2, 2, []) + PARTING
        self.assertEqual(answers(line), [1, -3, 1, -1, 1, -3, 3, 0, 0, 1])

    def test_a_list_of_plain_whole_numbers(self):
        told = answers(begin(2, 1, [3, 4]) + mean(1, 1) + PARTING + EVEN)
        self.assertIs(type(told), list)
        for number in told:
            self.assertIs(type(number), int)

    def test_sixty_calls_of_the_largest_picture(self):
        call = begin(16, 16, list(range(256)))
        line = call + (rank(2, 4, 1, 2) + mean(3, 4)) * 29 + PARTING
        self.assertEqual(len(answers(line)), 2 + 29 * 4 + 4)

    def test_as_long_as_a_list_may_be(self):
        line = begin(1, 1, [LARGEST] * 1024) * 15
        self.assertEqual(answers(line), [1, -3] * 15)

    def test_whole_lines_against_the_second_way(self):
        source = source_of(53)
        for number in range(25):
            second = Second()
            calls = []
            expected = []
            for place in range(source.randrange(1, 25)):
                call, answer = some_call(source, second)
                calls.append(call)
                expected.append(answer)
            self.assertEqual(ask(*calls), expected)


class WhatIsLeftAlone(unittest.TestCase):
    line = (begin(3, 2, [1, 2, 3, 4, 5, 60]) + piece(2, 1, [9, 9]) + mean(1, 1) + rank(2, 1, 1, 2)
            + weigh(3, 2, 5, 6, [1] * 9, [0] * 9) + EVEN + PARTING + begin(0, 0, [7]) + EVEN)

    def test_the_list_is_the_same_afterwards(self):
        handed = list(self.line)
        told = answers(handed)
        self.assertEqual(handed, self.line)
        told.append(99)
        self.assertEqual(handed, self.line)

    def test_not_changed_for_a_while_either(self):
        class Watched(list):
            def refuse(self, *given):
                raise AssertionError("the list was changed")

            __setitem__ = __delitem__ = __iadd__ = __imul__ = refuse
            append = clear = extend = insert = pop = remove = reverse = sort = refuse

        self.assertEqual(answers(Watched(self.line)), answers(self.line))

    def test_a_second_time_the_same(self):
        once = answers(self.line)
        self.assertEqual(answers(self.line), once)
        self.assertEqual(answers(list(self.line)), once)

    def test_nothing_is_kept_from_one_time_to_the_next(self):
        answers(begin(2, 1, [3, 200]) + piece(1, 1, [5]))
        self.assertEqual(answers(PARTING + weigh(0, 1, 0, 0, [0], [0])), [3, 0, 0, 1, 1, 0])

    def test_what_was_given_back_is_not_kept(self):
        first = answers(PARTING)
        first.append(5)
        first[0] = 77
        self.assertEqual(answers(PARTING), [3, 0, 0, 1])

    def test_prints_nothing(self):
        printed = io.StringIO()
        with contextlib.redirect_stdout(printed), contextlib.redirect_stderr(printed):
            answers(self.line)
        self.assertEqual(printed.getvalue(), "")

    def test_a_refusal_leaves_all_as_it_was(self):
        good = [begin(3, 2, [1, 2, 3, 4, 5, 60]), mean(0, 1)]
        rest = [PARTING, rank(1, 1, 1, 1), PARTING, EVEN, PARTING]
        expected = ask(*good, *rest)
        for bad in REFUSED:
            told = ask(*good, bad, *rest)
            self.assertEqual(len(told[2]), 1)
            self.assertLess(told[2][0], 0)
            self.assertEqual(told[:2] + told[3:], expected)


if __name__ == "__main__":
    unittest.main()
