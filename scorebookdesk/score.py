"""A score: its voices, their lines, its notes; and what is heard of it."""

from scorebookdesk.limits import VOICE_COUNT
from scorebookdesk.lines import line_value
from scorebookdesk.notes import given_at, note_end, sounds_at
from scorebookdesk.voices import AT_FIRST, Voice

LOWEST = -32768
HIGHEST = 32767


class Score:
    """A score without notes; its notes stay in the order in which they are put."""

    def __init__(self):
        self.voices = [Voice(AT_FIRST) for number in range(VOICE_COUNT)]
        self.lines = [[] for number in range(VOICE_COUNT)]
        self.notes = []
        self.next_number = 1


def voice_of(score, note):
    """The voice that the note is of, as it is now."""
    return score.voices[note.voice_number]


def note_numbered(score, number):
    """The note of that number, or None."""
    for note in score.notes:
        if note.number == number:
            return note
    return None


def sounding(score, t):
    """The numbers of the notes that sound at t, in order."""
    return [note.number for note in score.notes if sounds_at(note, voice_of(score, note), t)]


def next_change(score, t):
    """The least time above t at which a note begins or ends, or None."""
    begins = [note.at for note in score.notes]
    ends = [note_end(note, voice_of(score, note)) for note in score.notes]
    return min([time for time in begins + ends if time > t], default=None)


def heard_within(score, first, end):
    """The notes that sound at some time from first on and before end."""
    return [
        note
        for note in score.notes
        if note.at < end and first < note_end(note, voice_of(score, note))
    ]


def line_part(points, first, n):
    """A line's values at first and on, n of them."""
    return [line_value(points, t) for t in range(first, first + n)]


def note_part(score, note, values, first):
    """What the note gives at first and on, where its voice's line has these values."""
    voice = voice_of(score, note)
    return [given_at(note, voice, value, t) for t, value in enumerate(values, start=first)]


def sums(score, first, n):
    """The sums at first and on, n of them."""
    totals = [0] * n
    values = [line_part(points, first, n) for points in score.lines]
    for note in heard_within(score, first, first + n):
        part = note_part(score, note, values[note.voice_number], first)
        totals = [total + given for total, given in zip(totals, part)]
    return totals


def samples(score, first, n):
    """The sums at first and on, n of them, each cut to sixteen bits."""
    return [max(LOWEST, min(HIGHEST, total)) for total in sums(score, first, n)]


def peak(score, first, n):
    """The greatest size of the samples at first and on, n of them, and the first time of it."""
    greatest = 0
    time = first
    for t, sample in enumerate(samples(score, first, n), start=first):
        if abs(sample) > greatest:
            greatest = abs(sample)
            time = t
    return (greatest, time)
