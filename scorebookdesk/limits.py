"""Limits that several parts of a score share."""

TIME_END = 1099511627776  # 2 ** 40: every time lies below it
VOICE_COUNT = 8
MOST_NOTES = 64
NUMBERS_END = 4294967296  # 2 ** 32: every note's number lies below it
FULL = 256  # as loud as can be, of a voice, a line or a note's level


def none_above(numbers, greatest):
    """Whether no number is above the greatest that is told for its place."""
    return all([number <= limit for number, limit in zip(numbers, greatest)])
