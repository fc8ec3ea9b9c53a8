"""The piece laid on the picture: how badly it fits, and where it fits best."""

from throughwindows.pictures import row_of
from throughwindows.ratios import is_more


def shared_places(side, piece_side, shift):
    """The places of a side of the picture on which the piece lies too, its first place on shift."""
    return list(range(max(0, shift), min(side, shift + piece_side)))


def fit_at(picture, piece, dx, dy):
    """The squares of the differences together where both are, and how many pixels these are."""
    columns = shared_places(picture.w, piece.w, dx)
    rows = shared_places(picture.h, piece.h, dy)
    squares = 0
    for y in rows:
        under = row_of(picture, y)
        over = row_of(piece, y - dy)
        squares += sum([(under[x] - over[x - dx]) ** 2 for x in columns])
    return (squares, len(rows) * len(columns))


def is_too_large(picture, piece):
    """Whether the piece lies nowhere wholly within the picture."""
    return piece.w > picture.w or piece.h > picture.h


def best_place(picture, piece):
    """How badly the piece fits where it fits best within the picture, and the first such x and y."""
    best = [fit_at(picture, piece, 0, 0)[0], 0, 0]
    for y in range(picture.h - piece.h + 1):
        for x in range(picture.w - piece.w + 1):
            squares = fit_at(picture, piece, x, y)[0]
            if squares < best[0]:
                best = [squares, x, y]
    return best


def best_shift(picture, piece, r):
    """The best shift up to r each way: dx, dy, the squares and how many pixels have both."""
    best = (0, 0)
    least = None
    # From the least dy on, in each from the least dx on: of as little ones the first stays.
    for dy in range(-r, r + 1):
        for dx in range(-r, r + 1):
            fit = fit_at(picture, piece, dx, dy)
            if fit[1] > 0 and (least is None or is_more(least, fit)):
                best = (dx, dy)
                least = fit
    return [best[0], best[1], least[0], least[1]]
