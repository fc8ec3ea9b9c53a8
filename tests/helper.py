"""What the tests share: calls put down, answers taken apart, and a slow second way to work them out.

The second way follows the words of the document step by step, with fractions and places
moved inwards one by one, so that it shares no formula with the program.
"""

import math
import random
from fractions import Fraction

from throughwindows.pixels import answers

LARGEST = 2 ** 64 - 1
SIZES = [(1, 1), (1, 16), (16, 1), (2, 1), (2, 2), (3, 2), (5, 4), (16, 16)]


def counted(numbers):
    return [len(numbers)] + list(numbers)


def begin(w, h, colours):
    return [1, w, h] + counted(colours)


def piece(w, h, colours):
    return [2, w, h] + counted(colours)


def mean(sort, r):
    return [3, sort, r]


def rank(sort, r, p, q):
    return [4, sort, r, p, q]


def weigh(sort, divisor, added, taken, plus, minus):
    return [5, sort, divisor, added, taken] + counted(plus) + counted(minus)


def part(v):
    return [8, v]


def shift(r):
    return [10, r]


def row(y):
    return [11, y]


def cut(x, y, w, h):
    return [13, x, y, w, h]


EVEN = [6]
PARTING = [7]
FIND = [9]
SPREAD = [12]


def taken_apart(told):
    """The answers, each a list of its own."""
    parts = []
    place = 0
    while place < len(told):
        count = told[place]
        part = told[place + 1:place + 1 + count]
        if count < 1 or len(part) != count:
            raise ValueError(f"a count that doesn't fit at {place} in {told}")
        parts.append(part)
        place += 1 + count
    return parts


def ask(*calls):
    """The answers of these calls in one line."""
    line = []
    for call in calls:
        line.extend(call)
    return taken_apart(answers(line))


def last(*calls):
    """The answer of the last of these calls."""
    return ask(*calls)[-1]


def rows_seen(calls, h):
    """The rows of the picture after the calls."""
    return [told[1:] for told in ask(*calls, *[row(y) for y in range(h)])[len(calls):]]


def colours_seen(calls, w, h):
    """All colours after the calls, in order; rows of another length or of another number are an error."""
    seen = rows_seen(calls, h)
    if any(len(colours) != w for colours in seen) or last(*calls, row(h)) != [-1]:
        raise ValueError(f"not {w} by {h} pixels: {seen}")
    return [colour for colours in seen for colour in colours]


# The second way.

def nearest(value):
    return math.floor(value + Fraction(1, 2))


def place_by_steps(sort, place, side):
    while place < 0 or place >= side:
        if sort == 0:
            return None
        if sort == 1:
            place += 1 if place < 0 else -1
        elif sort == 2:
            if side == 1:
                return 0
            place = -place if place < 0 else (side - 1) - (place - (side - 1))
        else:
            place += side if place < 0 else -side
    return place


def window_by_steps(w, h, colours, sort, r, x, y):
    window = []
    for dy in range(-r, r + 1):
        for dx in range(-r, r + 1):
            at_x = place_by_steps(sort, x + dx, w)
            at_y = place_by_steps(sort, y + dy, h)
            there = at_x is not None and at_y is not None
            window.append(colours[at_y * w + at_x] if there else None)
    return window


def windows_by_steps(w, h, colours, sort, r):
    return [window_by_steps(w, h, colours, sort, r, x, y) for y in range(h) for x in range(w)]


def there(window):
    return [colour for colour in window if colour is not None]


def meant(w, h, colours, sort, r):
    windows = [there(window) for window in windows_by_steps(w, h, colours, sort, r)]
    return [nearest(Fraction(sum(window), len(window))) for window in windows]


def ranked(w, h, colours, sort, r, p, q):
    windows = [sorted(there(window)) for window in windows_by_steps(w, h, colours, sort, r)]
    return [window[math.floor(Fraction(p * (len(window) - 1), q))] for window in windows]


def weighed(w, h, colours, sort, divisor, added, taken, plus, minus):
    new = []
    for window in windows_by_steps(w, h, colours, sort, math.isqrt(len(plus)) // 2):
        together = 0
        for k, colour in enumerate(window):
            if colour is not None:
                together += (plus[k] - minus[k]) * colour
        result = nearest(Fraction(together, divisor)) + added - taken
        new.append(0 if result < 0 else 255 if result > 255 else result)
    return new


def evened(colours):
    n = len(colours)
    a = len([colour for colour in colours if colour == min(colours)])
    if n == a:
        return list(colours)
    below = [len([other for other in colours if other <= colour]) for colour in colours]
    return [nearest(Fraction(255 * (m - a), n - a)) for m in below]


def apart_at(colours, v):
    ones = [colour for colour in colours if colour <= v]
    others = [colour for colour in colours if colour > v]
    if not ones or not others:
        return 0, 1
    square = (sum(ones) * len(others) - sum(others) * len(ones)) ** 2
    return square, len(ones) * len(others)


def parted(colours):
    far = [Fraction(*apart_at(colours, v)) for v in range(256)]
    v = far.index(max(far))
    return [v, *apart_at(colours, v)]


def by_place(w, h, colours, at_x=0, at_y=0):
    """Each pixel's colour by its place, the first one lying on (at_x, at_y)."""
    return {(at_x + x, at_y + y): colours[y * w + x] for y in range(h) for x in range(w)}


def laid_on(picture, kept, x, y):
    """The squares together and how many pixels have both; a picture here is (w, h, colours)."""
    under = by_place(*picture)
    over = by_place(*kept, x, y)
    both = [place for place in over if place in under]
    return sum((under[place] - over[place]) ** 2 for place in both), len(both)


def places_within(picture, kept):
    """The places where the piece lies wholly within the picture, row by row."""
    places = [(x, y) for y in range(picture[1]) for x in range(picture[0])]
    return [place for place in places if laid_on(picture, kept, *place)[1] == len(kept[2])]


def found(picture, kept):
    places = places_within(picture, kept)
    if not places:
        return [-3]
    badly = [laid_on(picture, kept, *place)[0] for place in places]
    return [min(badly), *places[badly.index(min(badly))]]


def shifted(picture, kept, r):
    fits = []
    for dx in range(-r, r + 1):
        for dy in range(-r, r + 1):
            squares, count = laid_on(picture, kept, dx, dy)
            if count:
                fits.append((Fraction(squares, count), dy, dx, squares, count))
    best = min(fits)
    return [0, best[2], best[1], best[3], best[4]]


def spread_out(colours):
    told = [len(set(colours))]
    for colour in range(256):
        if colour in colours:
            told += [colour, len([1 for other in colours if other == colour])]
    return told


def cut_from(picture, x, y, w, h):
    """The part of the picture as a picture; None if it is refused."""
    pixels = by_place(*picture)
    corners = [(x, y), (x + w - 1, y + h - 1)]
    if w < 1 or h < 1 or any(corner not in pixels for corner in corners):
        return None
    return w, h, [pixels[at_x, at_y] for at_y in range(y, y + h) for at_x in range(x, x + w)]


def changed(before, after):
    return len([1 for k in range(len(before)) if before[k] != after[k]])


def some_colours(source, count):
    """Colours of a few sorts of picture: any, few, nearly alike, the ends alone."""
    choice = source.randrange(4)
    if choice == 0:
        return [source.randrange(256) for number in range(count)]
    if choice == 1:
        few = [source.randrange(256) for number in range(3)]
        return [source.choice(few) for number in range(count)]
    if choice == 2:
        first = source.randrange(250)
        return [first + source.randrange(6) for number in range(count)]
    return [source.choice([0, 255]) for number in range(count)]


def source_of(seed):
    return random.Random(seed)
