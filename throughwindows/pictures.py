"""Pictures, and the desk that keeps the picture and the piece of one line of calls."""


class Picture:
    """Its sides, and its colours in order: row by row, in each row from x 0 on.

    A picture is never changed, only replaced: so two may share their colours.
    """

    def __init__(self, w, h, colours):
        self.w = w
        self.h = h
        self.colours = colours


class Desk:
    """What a line of calls is about: the picture, and the piece kept aside."""

    def __init__(self):
        self.picture = dark_pixel()
        self.piece = dark_pixel()


def dark_pixel():
    """What both picture and piece are at the beginning."""
    return Picture(1, 1, [0])


def repaint(desk, colours):
    """Give the picture these colours; how many pixels have another colour then."""
    before = desk.picture
    desk.picture = Picture(before.w, before.h, colours)
    return len([old for old, new in zip(before.colours, colours) if old != new])


def row_of(picture, y):
    """The colours of row y."""
    return picture.colours[y * picture.w:(y + 1) * picture.w]


def cut_out(picture, x, y, w, h):
    """The part of the picture, w by h pixels, whose first pixel is (x, y)."""
    colours = []
    for place in range(y, y + h):
        colours.extend(row_of(picture, place)[x:x + w])
    return Picture(w, h, colours)
