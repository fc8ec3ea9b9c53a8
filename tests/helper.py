"""What the tests share: calls put down, answers taken apart, and a slow second way to work them out.

The second way follows the words of the document step by step, with fractions and places
moved inwards one by one, so that it shares no formula with the program.
"""

import math
import random
from fractions import Fraction

from throughwindows.pixels import answers

LARGEST = 2 ** 64 - 1
SIZES = [(1, 1), (1, 16), (16, 1), (2, 1), (2, 2), (3, 2), (5, 4), (16, 16)]


def row(numbers):
    return [len(numbers)] + list(numbers)


def begin(w, h, colours):
    return [1, w, h] + row(colours)


def piece(w, h, colours):
    return [2, w, h] + row(colours)


def mean(sort, r):
    return [3, sort, r]


def rank(sort, r, p, q):
    return [4, sort, r, p, q]


def weigh(sort, divisor, added, taken, plus, minus):
    return [5, sort, divisor, added, taken] + row(plus) + row(minus)


EVEN = [6]
PARTING = [7]


def taken_apart(told):
    """The answers, each a list of its own."""
    parts = []
    place = 0
    while place < len(told):
        count = told[place]
        part = told[place + 1:place + 1 + count]
        if count < 1 or len(part) != count:
            raise ValueError(f"a count that doesn't fit at {place} in {told}")
        parts.append(part)
        place += 1 + count
    return parts


def ask(*calls):
    """The answers of these calls in one line."""
    line = []
    for call in calls:
        line.extend(call)
    return taken_apart(answers(line))


def last(*calls):
    """The answer of the last of these calls."""
    return ask(*calls)[-1]


# Seeing the picture through calls 1 to 7 alone.

def move(dx, dy):
    """The call that moves all pixels by up to 2 each way; what leaves the picture is lost."""
    plus = [0] * 25
    plus[(2 - dy) * 5 + (2 - dx)] = 1
    return weigh(0, 1, 0, 0, plus, [0] * 25)


def moves(dx, dy):
    calls = []
    while dx or dy:
        step_x = max(-2, min(2, dx))
        step_y = max(-2, min(2, dy))
        calls.append(move(step_x, step_y))
        dx -= step_x
        dy -= step_y
    return calls


def lone_colour(calls):
    """The colour of a picture of one pixel: as much may be taken from it till black is as it is."""
    for v in range(256):
        black = weigh(0, 1, 0, v, [1], [0])
        if last(*calls, black, weigh(0, 1, 0, 0, [0], [0])) == [0]:
            return v
    raise ValueError("a colour above 255")


def colour_seen(calls, w, h, x, y):
    """The colour at (x, y) after the calls: all others are moved out, then the parts are looked at."""
    if w * h == 1:
        return lone_colour(calls)
    out = moves(w - 1 - x, h - 1 - y) + moves(1 - w, 1 - h)
    told = last(*calls, *out, PARTING)
    if told == [0, 0, 1]:
        return 0
    return math.isqrt(told[1]) // (w * h - 1)


def colours_seen(calls, w, h):
    """All colours after the calls, in order."""
    return [colour_seen(calls, w, h, x, y) for y in range(h) for x in range(w)]


# The second way.

def nearest(value):
    return math.floor(value + Fraction(1, 2))


def place_by_steps(sort, place, side):
    while place < 0 or place >= side:
        if sort == 0:
            return None
        if sort == 1:
            place += 1 if place < 0 else -1
        elif sort == 2:
            if side == 1:
                return 0
            place = -place if place < 0 else (side - 1) - (place - (side - 1))
        else:
            place += side if place < 0 else -side
    return place


def window_by_steps(w, h, colours, sort, r, x, y):
    window = []
    for dy in range(-r, r + 1):
        for dx in range(-r, r + 1):
            at_x = place_by_steps(sort, x + dx, w)
            at_y = place_by_steps(sort, y + dy, h)
            there = at_x is not None and at_y is not None
            window.append(colours[at_y * w + at_x] if there else None)
    return window


def windows_by_steps(w, h, colours, sort, r):
    return [window_by_steps(w, h, colours, sort, r, x, y) for y in range(h) for x in range(w)]


def there(window):
    return [colour for colour in window if colour is not None]


def meant(w, h, colours, sort, r):
    windows = [there(window) for window in windows_by_steps(w, h, colours, sort, r)]
    return [nearest(Fraction(sum(window), len(window))) for window in windows]


def ranked(w, h, colours, sort, r, p, q):
    windows = [sorted(there(window)) for window in windows_by_steps(w, h, colours, sort, r)]
    return [window[math.floor(Fraction(p * (len(window) - 1), q))] for window in windows]


def weighed(w, h, colours, sort, divisor, added, taken, plus, minus):
    new = []
    for window in windows_by_steps(w, h, colours, sort, math.isqrt(len(plus)) // 2):
        together = 0
        for k, colour in enumerate(window):
            if colour is not None:
                together += (plus[k] - minus[k]) * colour
        result = nearest(Fraction(together, divisor)) + added - taken
        new.append(0 if result < 0 else 255 if result > 255 else result)
    return new


def evened(colours):
    n = len(colours)
    a = len([colour for colour in colours if colour == min(colours)])
    if n == a:
        return list(colours)
    below = [len([other for other in colours if other <= colour]) for colour in colours]
    return [nearest(Fraction(255 * (m - a), n - a)) for m in below]


def apart_at(colours, v):
    ones = [colour for colour in colours if colour <= v]
    others = [colour for colour in colours if colour > v]
    if not ones or not others:
        return 0, 1
    square = (sum(ones) * len(others) - sum(others) * len(ones)) ** 2
    return square, len(ones) * len(others)


def parted(colours):
    far = [Fraction(*apart_at(colours, v)) for v in range(256)]
    v = far.index(max(far))
    return [v, *apart_at(colours, v)]


def changed(before, after):
    return len([1 for k in range(len(before)) if before[k] != after[k]])


def some_colours(source, count):
    """Colours of a few sorts of picture: any, few, nearly alike, the ends alone."""
    choice = source.randrange(4)
    if choice == 0:
        return [source.randrange(256) for number in range(count)]
    if choice == 1:
        few = [source.randrange(256) for number in range(3)]
        return [source.choice(few) for number in range(count)]
    if choice == 2:
        first = source.randrange(250)
        return [first + source.randrange(6) for number in range(count)]
    return [source.choice([0, 255]) for number in range(count)]


def source_of(seed):
    return random.Random(seed)
