"""Windows around the pixels of a picture, with the four sorts of edge."""


def mirrored(place, side):
    """A place of a side that is mirrored at both edges, as often as needed."""
    if side == 1:
        return 0
    # The edges are there once, so there and back again is 2 less than two sides.
    circle = 2 * side - 2
    along = place % circle
    if along < side:
        return along
    return circle - along


def taken_place(sort, place, side):
    """The place within a side that a place is taken from; None if it isn't there."""
    if 0 <= place and place < side:
        return place
    if sort == 0:
        return None
    if sort == 1:
        return max(0, min(place, side - 1))
    if sort == 2:
        return mirrored(place, side)
    return place % side


def taken_places(sort, r, middle, side):
    """The places up to r away from the middle, each as it is taken."""
    return [taken_place(sort, place, side) for place in range(middle - r, middle + r + 1)]


def window_around(picture, sort, r, x, y):
    """The colours of the window's places, row by row; None for a place that isn't there."""
    columns = taken_places(sort, r, x, picture.w)
    window = []
    for row in taken_places(sort, r, y, picture.h):
        for column in columns:
            if row is None or column is None:
                window.append(None)
            else:
                window.append(picture.colours[row * picture.w + column])
    return window


def all_windows(picture, sort, r):
    """The windows around all pixels, in order."""
    windows = []
    for y in range(picture.h):
        for x in range(picture.w):
            windows.append(window_around(picture, sort, r, x, y))
    return windows


def colours_there(window):
    """The window's colours without the places that aren't there."""
    return [colour for colour in window if colour is not None]
