"""Notes: when one sounds, and what it gives."""

from scorebookdesk.limits import none_above
from scorebookdesk.voices import loudness
from scorebookdesk.waves import ROUND, wave_value

GREATEST = (7, 1099511627775, 16777216, 65535, 256)  # voice, at, len, step, level
FULL_PRODUCT = 16777216  # 2 ** 24: loudness, level and the line's value, each 256


class Note:
    """A note of its number and five numbers: voice, at, len, step, level."""

    def __init__(self, number, numbers):
        self.number = number
        self.voice_number = numbers[0]
        self.at = numbers[1]
        self.length = numbers[2]
        self.step = numbers[3]
        self.level = numbers[4]


def note_fits(numbers):
    """Whether five numbers are a note's."""
    return numbers[2] >= 1 and none_above(numbers, GREATEST)


def note_numbers(note):
    """The note's number and its five numbers."""
    return [note.number, note.voice_number, note.at, note.length, note.step, note.level]


def note_end(note, voice):
    """The first time at which the note, of this voice, sounds no more."""
    return note.at + note.length + voice.fade


def sounds_at(note, voice, t):
    """Whether the note, of this voice, sounds at t."""
    return note.at <= t < note_end(note, voice)


def given_at(note, voice, value, t):
    """What the note, of this voice, gives at t, where the voice's line has that value."""
    if not sounds_at(note, voice, t):
        return 0
    k = t - note.at
    wave = wave_value(voice.wave, k * note.step % ROUND)
    return wave * loudness(voice, note.length, k) * note.level * value // FULL_PRODUCT
