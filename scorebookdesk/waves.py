"""Waves: the value of each at a place of its round."""

ROUND = 65536
HALF = 32768
TOP = 32767


def saw(place):
    """Wave 0."""
    return place - HALF


def square(place):
    """Wave 1."""
    if place < HALF:
        return TOP
    return -HALF


def triangle(place):
    """Wave 2."""
    if place < HALF:
        return 2 * place - HALF
    return 98302 - 2 * place


def arcs(place):
    """Wave 3."""
    within = place % HALF
    height = 4 * within * (HALF - within) // HALF
    if place < HALF:
        # The arc's very top would be 32768, which sixteen bits don't hold.
        return min(height, TOP)
    return -height


WAVES = (saw, square, triangle, arcs)


def wave_value(wave, place):
    """The value of a wave, by its number, at a place from 0 to 65535."""
    return WAVES[wave](place)
