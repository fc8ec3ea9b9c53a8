"""What each call does to the desk and answers: a list of numbers, of a refusal its number alone.

Every refusal is told before anything is changed.
"""

from throughwindows.colours import made_even, mean_colour, parted_at, rank_colour, spread_of, weighed_colour
from throughwindows.fits import best_place, best_shift, is_too_large
from throughwindows.partings import best_parting, how_far_apart
from throughwindows.pictures import Picture, cut_out, dark_pixel, repaint, row_of
from throughwindows.windows import all_windows

REACHES = {1: 0, 9: 1, 25: 2}


def is_side(side):
    """Whether a picture may have such a side."""
    return 1 <= side and side <= 16


def picture_refusal(w, h, colours):
    """The refusal of a picture, or 0."""
    if not is_side(w) or not is_side(h):
        return -1
    if len(colours) != w * h or max(colours) > 255:
        return -3
    return 0


def answer_begin(desk, w, h, colours):
    """Call 1: the picture; the piece is as at the beginning."""
    refusal = picture_refusal(w, h, colours)
    if refusal < 0:
        return [refusal]
    desk.picture = Picture(w, h, colours)
    desk.piece = dark_pixel()
    return [0]


def answer_piece(desk, w, h, colours):
    """Call 2: the piece."""
    refusal = picture_refusal(w, h, colours)
    if refusal < 0:
        return [refusal]
    desk.piece = Picture(w, h, colours)
    return [0]


def is_window(sort, r):
    """Whether there is such a sort of edge and such a reach."""
    return sort <= 3 and r <= 4


def answer_mean(desk, sort, r):
    """Call 3: each pixel becomes its window's mean."""
    if not is_window(sort, r):
        return [-1]
    windows = all_windows(desk.picture, sort, r)
    return [repaint(desk, [mean_colour(window) for window in windows])]


def answer_rank(desk, sort, r, p, q):
    """Call 4: each pixel becomes its window's rank."""
    if not is_window(sort, r) or q == 0 or p > q:
        return [-1]
    windows = all_windows(desk.picture, sort, r)
    return [repaint(desk, [rank_colour(window, p, q) for window in windows])]


def weigh_refusal(sort, divisor, others, plus, minus):
    """The refusal of weights, or 0; the others are what is added and taken."""
    if len(plus) not in REACHES or len(minus) != len(plus):
        return -3
    if sort > 3 or divisor < 1 or divisor > 1000:
        return -1
    if max(others + plus + minus) > 1000:
        return -1
    return 0


def answer_weigh(desk, sort, divisor, added, taken, plus, minus):
    """Call 5: each pixel becomes what its window weighs."""
    refusal = weigh_refusal(sort, divisor, [added, taken], plus, minus)
    if refusal < 0:
        return [refusal]
    weights = [more - less for more, less in zip(plus, minus)]
    windows = all_windows(desk.picture, sort, REACHES[len(plus)])
    colours = [weighed_colour(window, weights, divisor, added - taken) for window in windows]
    return [repaint(desk, colours)]


def answer_even(desk):
    """Call 6: the picture is made even."""
    return [repaint(desk, made_even(desk.picture.colours))]


def answer_parting(desk):
    """Call 7: the best parting, and how far apart the parts are there."""
    colours = desk.picture.colours
    best = best_parting(colours)
    apart = how_far_apart(colours, best)
    return [best, apart[0], apart[1]]


def answer_part(desk, v):
    """Call 8: the picture is parted at v into black and white."""
    if v > 255:
        return [-1]
    return [repaint(desk, parted_at(desk.picture.colours, v))]


def answer_find(desk):
    """Call 9: where the piece fits best."""
    if is_too_large(desk.picture, desk.piece):
        return [-3]
    return best_place(desk.picture, desk.piece)


def answer_shift(desk, r):
    """Call 10: by which shift the piece fits best."""
    if r > 8:
        return [-1]
    # A dx below 0 that came first would look like a refusal, so a 0 stands before it.
    return [0] + best_shift(desk.picture, desk.piece, r)


def answer_row(desk, y):
    """Call 11: a row of the picture."""
    if y >= desk.picture.h:
        return [-1]
    return [desk.picture.w] + row_of(desk.picture, y)


def answer_spread(desk):
    """Call 12: which colours there are, and how many pixels of each."""
    spread = spread_of(desk.picture.colours)
    answer = [len(spread)]
    for colour, pixels in spread:
        answer.append(colour)
        answer.append(pixels)
    return answer


def is_within(picture, x, y, w, h):
    """Whether such a part is not empty, and wholly within the picture."""
    return w > 0 and h > 0 and x + w <= picture.w and y + h <= picture.h


def answer_cut(desk, x, y, w, h):
    """Call 13: the piece is a part of the picture."""
    if not is_within(desk.picture, x, y, w, h):
        return [-1]
    desk.piece = cut_out(desk.picture, x, y, w, h)
    return [w * h]
