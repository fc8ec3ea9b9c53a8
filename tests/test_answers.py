"""The interface: how the calls stand in the list, what is given back, and what is left alone."""

import contextlib
import io
import unittest

from helper import (EVEN, FIND, LARGEST, PARTING, SPREAD, ask, begin, changed, cut, cut_from, evened, found, mean,
                    meant, part, parted, piece, rank, ranked, row, shift, shifted, some_colours, source_of,
                    spread_out, weigh, weighed)
from throughwindows.pixels import answers

# Calls that are refused whatever picture and piece there are.
REFUSED = [begin(0, 1, []), begin(1, 1, [256]), piece(17, 1, []), piece(1, 1, [1, 2]), mean(4, 0), mean(0, 5),
           rank(0, 0, 1, 0), rank(0, 0, 2, 1), weigh(0, 1, 0, 0, [], []), weigh(4, 1, 0, 0, [1], [0]),
           begin(LARGEST, LARGEST, [LARGEST] * 1024), weigh(0, 0, 0, 0, [1], [0]), part(256), shift(9), row(16),
           cut(0, 0, 0, 1), cut(0, 0, 17, 1), cut(LARGEST, LARGEST, LARGEST, LARGEST)]


class Second:
    """A line worked out by the second way, call by call; a picture is (w, h, colours)."""

    def __init__(self):
        self.picture = (1, 1, [0])
        self.piece = (1, 1, [0])

    def repaint(self, colours):
        count = changed(self.picture[2], colours)
        self.picture = (*self.picture[:2], colours)
        return [count]

    def begin(self, w, h, colours):
        self.picture = (w, h, colours)
        self.piece = (1, 1, [0])
        return [0]

    def put_aside(self, w, h, colours):
        self.piece = (w, h, colours)
        return [0]

    def cut(self, x, y, w, h):
        kept = cut_from(self.picture, x, y, w, h)
        if kept is None:
            return [-1]
        self.piece = kept
        return [w * h]

    def row(self, y):
        w, h, colours = self.picture
        return [w] + colours[y * w:y * w + w] if y < h else [-1]


def some_picture(source, largest):
    w = source.randrange(1, largest + 1)
    h = source.randrange(1, largest + 1)
    return w, h, some_colours(source, w * h)


def some_change(source, second, number):
    """A call of 3 to 6, or 8, and what it answers."""
    sort = source.randrange(4)
    r = source.randrange(5)
    picture = second.picture
    if number == 3:
        return mean(sort, r), second.repaint(meant(*picture, sort, r))
    if number == 4:
        q = source.randrange(1, 9)
        p = source.randrange(q + 1)
        return rank(sort, r, p, q), second.repaint(ranked(*picture, sort, r, p, q))
    if number == 5:
        return some_weights(source, second, sort)
    if number == 6:
        return EVEN, second.repaint(evened(picture[2]))
    v = source.randrange(256)
    return part(v), second.repaint([0 if colour <= v else 255 for colour in picture[2]])


def some_weights(source, second, sort):
    count = source.choice([1, 9, 25])
    plus = [source.randrange(4) for number in range(count)]
    minus = [source.randrange(3) for number in range(count)]
    numbers = (sort, source.randrange(1, 12), source.randrange(60), source.randrange(60), plus, minus)
    return weigh(*numbers), second.repaint(weighed(*second.picture, *numbers))


def some_call(source, second, number):
    """A call with this number and what it answers; with number 0 one that is refused."""
    if number == 0:
        bad = source.choice(REFUSED)
        return bad, ask(bad)[0]
    if number == 1:
        picture = some_picture(source, 12)
        return begin(*picture), second.begin(*picture)
    if number == 2:
        picture = some_picture(source, 6)
        return piece(*picture), second.put_aside(*picture)
    if number == 7:
        return PARTING, parted(second.picture[2])
    if number == 9:
        return FIND, found(second.picture, second.piece)
    if number == 10:
        r = source.randrange(4)
        return shift(r), shifted(second.picture, second.piece, r)
    if number == 11:
        y = source.randrange(14)
        return row(y), second.row(y)
    if number == 12:
        return SPREAD, spread_out(second.picture[2])
    if number == 13:
        place = [source.randrange(9), source.randrange(9), source.randrange(1, 5), source.randrange(1, 5)]
        return cut(*place), second.cut(*place)
    return some_change(source, second, number)


def some_line(source, numbers):
    """Calls with these numbers, and what they answer."""
    second = Second()
    told = [some_call(source, second, number) for number in numbers]
    return [call for call, answer in told], [answer for call, answer in told]


class WhatIsGivenBack(unittest.TestCase):
    def test_how_many_then_these(self):
        self.assertEqual(answers(begin(3, 1, [20, 90, 10]) + PARTING + EVEN), [1, 0, 3, 20, 22500, 2, 1, 3])
        self.assertEqual(answers([7]), [3, 0, 0, 1])
        self.assertEqual(answers([6]), [1, 0])

    def test_as_the_readme_shows(self):
        line = [1, 3, 1, 3, 20, 90, 10, 7, 4, 0, 1, 1, 2, 11, 0, 13, 1, 0, 2, 1, 9]
        self.assertEqual(answers(line), [1, 0, 3, 20, 22500, 2, 1, 1, 4, 3, 20, 20, 10, 1, 2, 3, 0, 1, 0])

    def test_a_refusal_is_its_number_alone(self):
        self.assertEqual(answers(begin(0, 0, [])), [1, -1])
        self.assertEqual(answers(begin(1, 1, [])), [1, -3])
        self.assertEqual(answers(mean(4, 4) + PARTING), [1, -1, 3, 0, 0, 1])

    def test_what_is_behind_refused_lists_is_read_on(self):
        line = weigh(0, 1, 0, 0, [6] * 1024, [7] * 3) + begin(17, 2, [1] * 34) + piece(2, 2, []) + PARTING
        self.assertEqual(answers(line), [1, -3, 1, -1, 1, -3, 3, 0, 0, 1])

    def test_a_list_of_plain_whole_numbers(self):
        told = answers(begin(2, 1, [3, 4]) + mean(1, 1) + PARTING + EVEN + FIND + shift(1) + part(3) + row(0) + row(9)
                       + SPREAD + cut(0, 0, 2, 1) + rank(0, 1, 1, 2) + weigh(0, 1, 0, 0, [1], [0]) + piece(1, 1, [4]))
        self.assertIs(type(told), list)
        for number in told:
            self.assertIs(type(number), int)

    def test_each_call_once(self):
        line = (begin(2, 2, [10, 20, 30, 41]) + piece(1, 1, [29]) + FIND + shift(1) + row(1) + SPREAD + PARTING
                + cut(1, 0, 1, 2) + FIND + mean(1, 0) + rank(0, 0, 1, 2) + weigh(0, 1, 1, 0, [1], [0]) + FIND
                + EVEN + part(100) + row(0) + row(2))
        told = [1, 0, 1, 0, 3, 1, 0, 1, 5, 0, 0, 1, 1, 1, 3, 2, 30, 41, 9, 4, 10, 1, 20, 1, 30, 1, 41, 1,
                3, 20, 6724, 4, 1, 2, 3, 0, 1, 0, 1, 0, 1, 0, 1, 4, 3, 2, 1, 0, 1, 4, 1, 2, 3, 2, 0, 0, 1, -1]
        self.assertEqual(answers(line), told)

    def test_only_dx_and_dy_may_be_below_0(self):
        line = begin(2, 2, [9, 200, 80, 7]) + piece(2, 2, [1, 1, 1, 9]) + shift(1)
        self.assertEqual(answers(line), [1, 0, 1, 0, 5, 0, -1, -1, 0, 1])


class LongLines(unittest.TestCase):
    def test_sixty_calls_of_the_largest_picture(self):
        call = begin(16, 16, list(range(256)))
        line = call + (rank(2, 4, 1, 2) + mean(3, 4)) * 29 + PARTING
        self.assertEqual(len(answers(line)), 2 + 29 * 4 + 4)

    def test_sixty_calls_that_take_longest(self):
        call = begin(16, 16, [number * 77 % 256 for number in range(256)])
        told = ask(call, cut(0, 0, 16, 16), *[shift(8)] * 58)
        self.assertEqual(told, [[0], [256]] + [[0, 0, 0, 0, 256]] * 58)
        told = ask(call, cut(4, 4, 8, 8), *[FIND] * 58)
        self.assertEqual(told, [[0], [64]] + [[0, 4, 4]] * 58)

    def test_as_long_as_a_list_may_be(self):
        line = begin(1, 1, [LARGEST] * 1024) * 15
        self.assertEqual(answers(line), [1, -3] * 15)

    def test_sixty_calls_with_all_thirteen_and_refusals(self):
        source = source_of(53)
        for number in range(12):
            # Each number from 0 to 13 once and more as it comes, but begin seldom: it undoes what was built up.
            numbers = list(range(14)) + [source.randrange(2, 14) for place in range(45)]
            source.shuffle(numbers)
            calls, expected = some_line(source, [1] + numbers)
            self.assertEqual(len(calls), 60)
            self.assertEqual({call[0] for call in calls}, set(range(1, 14)))
            self.assertEqual(ask(*calls), expected)

    def test_short_lines(self):
        source = source_of(54)
        for number in range(60):
            calls, expected = some_line(source, [source.randrange(14) for place in range(source.randrange(1, 8))])
            self.assertEqual(ask(*calls), expected)

    def test_sixteen_thousand_numbers_with_all_thirteen(self):
        source = source_of(55)
        for number in range(4):
            calls, expected = some_line(source, list(range(1, 14)) * 3 + [9, 10, 11, 12, 13])
            left = 16000 - sum(len(call) for call in calls)
            # Refused lists, 16 of them, stand between the calls and fill the line up.
            lengths = [left // 16] * 15 + [left - left // 16 * 15]
            for place, length in enumerate(lengths):
                calls.insert(2 * place + 1, piece(16, 16, [LARGEST] * (length - 4)))
                expected.insert(2 * place + 1, [-3])
            self.assertEqual(sum(len(call) for call in calls), 16000)
            self.assertEqual(len(calls), 60)
            self.assertEqual({call[0] for call in calls}, set(range(1, 14)))
            self.assertEqual(ask(*calls), expected)

    def test_sixty_calls_with_lists_that_are_taken(self):
        colours = [number * 77 % 256 for number in range(256)]
        calls = [begin(16, 16, colours)] + [piece(16, 16, colours), shift(1)] * 29 + [SPREAD]
        self.assertEqual(ask(*calls)[1:-1], [[0], [0, 0, 0, 0, 256]] * 29)
        calls = [begin(16, 16, colours), piece(16, 16, colours)] * 30
        self.assertEqual(ask(*calls), [[0]] * 60)


class WhatIsLeftAlone(unittest.TestCase):
    line = (begin(3, 2, [1, 2, 3, 4, 5, 60]) + piece(2, 1, [9, 9]) + FIND + shift(2) + mean(1, 1) + rank(2, 1, 1, 2)
            + weigh(3, 2, 5, 6, [1] * 9, [0] * 9) + EVEN + PARTING + begin(0, 0, [7]) + EVEN + SPREAD + row(1)
            + cut(1, 0, 2, 2) + part(99) + FIND + shift(1) + cut(0, 0, 9, 9) + row(7) + part(256) + shift(9))

    def test_the_list_is_the_same_afterwards(self):
        handed = list(self.line)
        told = answers(handed)
        self.assertEqual(handed, self.line)
        told.append(99)
        self.assertEqual(handed, self.line)

    def test_not_changed_for_a_while_either(self):
        class Watched(list):
            def refuse(self, *given):
                raise AssertionError("the list was changed")

            __setitem__ = __delitem__ = __iadd__ = __imul__ = refuse
            append = clear = extend = insert = pop = remove = reverse = sort = refuse

        self.assertEqual(answers(Watched(self.line)), answers(self.line))

    def test_a_second_time_the_same(self):
        once = answers(self.line)
        self.assertEqual(answers(self.line), once)
        self.assertEqual(answers(list(self.line)), once)

    def test_nothing_is_kept_from_one_time_to_the_next(self):
        answers(begin(2, 1, [3, 200]) + piece(1, 1, [5]))
        self.assertEqual(answers(PARTING + weigh(0, 1, 0, 0, [0], [0])), [3, 0, 0, 1, 1, 0])
        answers(begin(2, 1, [3, 200]) + cut(1, 0, 1, 1))
        self.assertEqual(answers(row(0) + row(1) + FIND + SPREAD), [2, 1, 0, 1, -1, 3, 0, 0, 0, 3, 1, 0, 1])

    def test_what_was_given_back_is_not_kept(self):
        first = answers(PARTING)
        first.append(5)
        first[0] = 77
        self.assertEqual(answers(PARTING), [3, 0, 0, 1])

    def test_prints_nothing(self):
        printed = io.StringIO()
        with contextlib.redirect_stdout(printed), contextlib.redirect_stderr(printed):
            answers(self.line)
        self.assertEqual(printed.getvalue(), "")

    def test_a_refusal_leaves_all_as_it_was(self):
        good = [begin(3, 2, [1, 2, 3, 4, 5, 60]), mean(0, 1), piece(2, 1, [9, 40])]
        rest = [row(0), row(1), row(2), FIND, shift(1), SPREAD, PARTING, rank(1, 1, 1, 1), FIND, PARTING, EVEN, row(1)]
        expected = ask(*good, *rest)
        for bad in REFUSED:
            told = ask(*good, bad, *rest)
            self.assertEqual(len(told[3]), 1)
            self.assertLess(told[3][0], 0)
            self.assertEqual(told[:3] + told[4:], expected)

    def test_a_piece_that_is_too_large_is_left_too(self):
        good = [begin(3, 2, [1, 2, 3, 4, 5, 60]), piece(1, 3, [9, 40, 7])]
        rest = [row(0), row(1), shift(2), SPREAD, EVEN, shift(2)]
        told = ask(*good, FIND, *rest)
        self.assertEqual(told[2], [-3])
        self.assertEqual(told[:2] + told[3:], ask(*good, *rest))


if __name__ == "__main__":
    unittest.main()
