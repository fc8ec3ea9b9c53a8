"""The colour that a pixel gets (by mean, by rank, by weights, made even, parted), and the spread."""

from throughwindows.ratios import rounded
from throughwindows.windows import colours_there


def mean_colour(window):
    """The mean of a window's colours."""
    there = colours_there(window)
    return rounded(sum(there), len(there))


def rank_colour(window, p, q):
    """The colour of rank p by q among a window's colours."""
    there = sorted(colours_there(window))
    return there[p * (len(there) - 1) // q]


def weighed_colour(window, weights, divisor, more):
    """The weighed sum of a window's colours by the divisor, and more added; kept within 0 to 255."""
    parts = [weight * colour for weight, colour in zip(weights, window) if colour is not None]
    return max(0, min(rounded(sum(parts), divisor) + more, 255))


def counts_up_to(colours):
    """For each colour from 0 to 255 how many pixels have it or one below it."""
    counts = []
    so_far = 0
    for colour in range(256):
        so_far += colours.count(colour)
        counts.append(so_far)
    return counts


def made_even(colours):
    """The colours of a picture, made even."""
    pixels = len(colours)
    least = colours.count(min(colours))
    if pixels == least:
        return list(colours)
    up_to = counts_up_to(colours)
    return [rounded(255 * (up_to[colour] - least), pixels - least) for colour in colours]


def parted_at(colours, v):
    """The colours of a picture, up to v made black and above it white."""
    return [0 if colour <= v else 255 for colour in colours]


def spread_of(colours):
    """Of each colour there is, the least first, the colour and how many pixels have it."""
    return [(colour, colours.count(colour)) for colour in sorted(set(colours))]
