"""A picture parted into dark and light, and where the parts are furthest apart."""

from throughwindows.ratios import is_more


def how_far_apart(colours, v):
    """How far apart the parts are at v: the square, and the product that it is taken by."""
    dark = [colour for colour in colours if colour <= v]
    light = [colour for colour in colours if colour > v]
    if len(dark) == 0 or len(light) == 0:
        return (0, 1)
    difference = sum(dark) * len(light) - sum(light) * len(dark)
    return (difference * difference, len(dark) * len(light))


def best_parting(colours):
    """The least v at which the parts are furthest apart."""
    best = 0
    furthest = how_far_apart(colours, 0)
    for v in range(1, 256):
        apart = how_far_apart(colours, v)
        if is_more(apart, furthest):
            best = v
            furthest = apart
    return best
