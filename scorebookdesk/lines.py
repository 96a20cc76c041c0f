"""Lines: how loud a voice is in the course of time.

A line is a list of points, each a tuple of a time and a value.
"""

from scorebookdesk.limits import FULL, TIME_END

MOST_POINTS = 16


def points_of(numbers):
    """The points of numbers that are time and value one after another."""
    return list(zip(numbers[::2], numbers[1::2]))


def point_numbers(points):
    """The numbers of points, time and value one after another."""
    numbers = []
    for point in points:
        numbers.extend(point)
    return numbers


def points_fit(numbers):
    """Whether numbers, time and value one after another, are a line's."""
    if len(numbers) % 2 == 1 or len(numbers) > 2 * MOST_POINTS:
        return False
    least = 0
    for point in points_of(numbers):
        if point[0] < least or point[0] >= TIME_END or point[1] > FULL:
            return False
        least = point[0] + 1
    return True


def value_between(earlier, later, t):
    """The value at t, which lies between two points."""
    climb = later[1] - earlier[1]
    return earlier[1] + climb * (t - earlier[0]) // (later[0] - earlier[0])


def line_value(points, t):
    """The line's value at t."""
    if len(points) == 0:
        return FULL
    earlier = points[0]
    if t <= earlier[0]:
        return earlier[1]
    for later in points:
        if t < later[0]:
            return value_between(earlier, later, t)
        earlier = later
    return earlier[1]
