"""Calls written by name, and answers taken apart, for every test."""

from scorebookdesk.player import answers

TIME_END = 2 ** 40
GREATEST_NUMBER = 2 ** 64 - 1


def voice(v=0, wave=0, rise=0, fall=0, stay=256, fade=0):
    return [0, v, wave, rise, fall, stay, fade]


def line(v, *numbers):
    return [1, v, len(numbers)] + list(numbers)


def note(v=0, at=0, length=1, step=0, level=256):
    return [2, v, at, length, step, level]


def drop(number):
    return [3, number]


def move(number, at):
    return [4, number, at]


def render(first, n):
    return [5, first, n]


def raw(first, n):
    return [6, first, n]


def sounds(t):
    return [7, t]


def following(t):
    """The call next."""
    return [8, t]


def loud(v, length, k):
    return [9, v, length, k]


def line_at(v, t):
    return [10, v, t]


def seek(t):
    return [11, t]


def play(n):
    return [12, n]


def peak(first, n):
    return [13, first, n]


def all_notes():
    """The call notes."""
    return [14]


def save():
    return [15]


def load(row):
    return [16, len(row)] + list(row)


def written_row(voices=(), lines=(), next_number=1, notes=()):
    """A score's row; what is left out of the eight voices and lines is as at first."""
    voices = list(voices) + [(0, 0, 0, 256, 0)] * (8 - len(voices))
    lines = list(lines) + [()] * (8 - len(lines))
    row = [number for numbers in voices for number in numbers]
    for points in lines:
        row += [len(points)] + [number for point in points for number in point]
    return row + [next_number, len(notes)] + [number for numbers in notes for number in numbers]


def flat(calls):
    return [number for call in calls for number in call]


def parted(numbers):
    """The answers of one list, each as a list of its own."""
    found = []
    begin = 0
    while begin < len(numbers):
        end = begin + 1 + numbers[begin]
        if end > len(numbers) or numbers[begin] < 1:
            raise AssertionError("the counts of numbers don't fit the list")
        found.append(numbers[begin + 1:end])
        begin = end
    return found


def ask(*calls):
    """The answers to calls on a new score."""
    found = parted(answers(flat(calls)))
    if len(found) != len(calls):
        raise AssertionError("not one answer for each call")
    return found


def last(*calls):
    """The answer to the last of these calls."""
    return ask(*calls)[-1]


def listed(answer):
    """The list of an answer that is a number and one list."""
    if len(answer) < 2 or answer[1] != len(answer) - 2:
        raise AssertionError("not a number and a list: " + repr(answer))
    return answer[2:]


def lists_in(answer):
    """The lists of an answer that is a number and any lists."""
    return parted(answer[1:])


def notes_of(calls):
    """Of each note of the score its number, voice, at, len, step, level."""
    answer = last(*calls, all_notes())
    found = lists_in(answer)
    if answer[0] != len(found):
        raise AssertionError("not as many notes as told: " + repr(answer))
    return found


def row_after(calls):
    """The row of the score."""
    answer = last(*calls, save())
    found = listed(answer)
    if answer[0] != len(found):
        raise AssertionError("not as many numbers as told: " + repr(answer))
    return found


def sums_of(calls, first, n):
    return listed(last(*calls, raw(first, n)))


def samples_of(calls, first, n):
    return listed(last(*calls, render(first, n)))


def sounding_in(calls, t):
    return listed(last(*calls, sounds(t)))


def full_strength(calls, first, n):
    """Loudness times line value over 256, of one note of the saw at step 0 and level 256.

    Such a note gives -128 times that, so nothing is lost by rounding.
    """
    found = sums_of(calls, first, n)
    if any(total % 128 for total in found):
        raise AssertionError("not whole: " + repr(found))
    return [-total // 128 for total in found]
