"""A picture parted into dark and light, and where the parts are furthest apart."""


def how_far_apart(colours, v):
    """How far apart the parts are at v: the square, and the product that it is taken by."""
    dark = [colour for colour in colours if colour <= v]
    light = [colour for colour in colours if colour > v]
    if len(dark) == 0 or len(light) == 0:
        return (0, 1)
    difference = sum(dark) * len(light) - sum(light) * len(dark)
    return (difference * difference, len(dark) * len(light))


def is_further(one, other):
    """Whether one square by its product is more than the other by its own."""
    return one[0] * other[1] > other[0] * one[1]


def best_parting(colours):
    """The least v at which the parts are furthest apart."""
    best = 0
    furthest = how_far_apart(colours, 0)
    for v in range(1, 256):
        apart = how_far_apart(colours, v)
        if is_further(apart, furthest):
            best = v
            furthest = apart
    return best
