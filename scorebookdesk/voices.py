"""Voices: how a note rises, stays and dies away."""

from scorebookdesk.limits import FULL, none_above

GREATEST = (3, 65535, 65535, 256, 65535)  # wave, rise, fall, stay, fade
AT_FIRST = (0, 0, 0, 256, 0)


class Voice:
    """A voice of five numbers: wave, rise, fall, stay, fade."""

    def __init__(self, numbers):
        self.wave = numbers[0]
        self.rise = numbers[1]
        self.fall = numbers[2]
        self.stay = numbers[3]
        self.fade = numbers[4]


def voice_fits(numbers):
    """Whether five numbers are a voice's."""
    return none_above(numbers, GREATEST)


def voice_numbers(voice):
    """The five numbers of a voice."""
    return [voice.wave, voice.rise, voice.fall, voice.stay, voice.fade]


def held(voice, k):
    """How loud a note of this voice is after k samples while it is held."""
    if k < voice.rise:
        return FULL * k // voice.rise
    if k - voice.rise < voice.fall:
        return FULL - (FULL - voice.stay) * (k - voice.rise) // voice.fall
    return voice.stay


def loudness(voice, length, k):
    """How loud a note of length samples of this voice is after k samples."""
    if k < length:
        return held(voice, k)
    if k - length < voice.fade:
        return held(voice, length) * (voice.fade - (k - length)) // voice.fade
    return 0
