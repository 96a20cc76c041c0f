"""Rows: a score as one list of numbers, and back."""

from scorebookdesk.limits import MOST_NOTES, NUMBERS_END, VOICE_COUNT
from scorebookdesk.lines import MOST_POINTS, point_numbers, points_fit, points_of
from scorebookdesk.notes import Note, note_fits, note_numbers
from scorebookdesk.score import Score
from scorebookdesk.voices import Voice, voice_fits, voice_numbers

VOICE_SIZE = 5
NOTE_SIZE = 6


class NoScoresRow(ValueError):
    """A row is no score's."""


class Reader:
    """A row, and where the part of it that isn't read yet begins."""

    def __init__(self, row):
        self.row = row
        self.begin = 0


def row_of(score):
    """The score's row."""
    row = []
    for voice in score.voices:
        row.extend(voice_numbers(voice))
    for points in score.lines:
        row.append(len(points))
        row.extend(point_numbers(points))
    row.append(score.next_number)
    row.append(len(score.notes))
    for note in score.notes:
        row.extend(note_numbers(note))
    return row


def read(reader, n):
    """The next n numbers of the row."""
    end = reader.begin + n
    if end > len(reader.row):
        raise NoScoresRow("it is too short")
    numbers = reader.row[reader.begin:end]
    reader.begin = end
    return numbers


def read_count(reader, most):
    """The next number of the row, which is how many of something follow."""
    count = read(reader, 1)[0]
    if count > most:
        raise NoScoresRow("there are too many")
    return count


def read_voice(reader):
    """The voice that follows in the row."""
    numbers = read(reader, VOICE_SIZE)
    if not voice_fits(numbers):
        raise NoScoresRow("a voice isn't as told")
    return Voice(numbers)


def read_line(reader):
    """The points of the line that follows in the row."""
    numbers = read(reader, 2 * read_count(reader, MOST_POINTS))
    if not points_fit(numbers):
        raise NoScoresRow("a line isn't as told")
    return points_of(numbers)


def read_next_number(reader):
    """The next note's number, which follows in the row."""
    number = read(reader, 1)[0]
    if number < 1 or number > NUMBERS_END:
        raise NoScoresRow("the next note's number isn't as told")
    return number


def read_note(reader):
    """The note that follows in the row."""
    numbers = read(reader, NOTE_SIZE)
    if not note_fits(numbers[1:]):
        raise NoScoresRow("a note isn't as told")
    return Note(numbers[0], numbers[1:])


def read_notes(reader, next_number):
    """The notes that follow in the row, where that is the next note's number."""
    notes = [read_note(reader) for place in range(read_count(reader, MOST_NOTES))]
    numbers = [note.number for note in notes]
    if len(set(numbers)) < len(numbers):
        raise NoScoresRow("a number is there twice")
    if not all([1 <= number < next_number for number in numbers]):
        raise NoScoresRow("a note's number isn't as told")
    return notes


def score_of(row):
    """The score whose row this is."""
    reader = Reader(row)
    score = Score()
    score.voices = [read_voice(reader) for v in range(VOICE_COUNT)]
    score.lines = [read_line(reader) for v in range(VOICE_COUNT)]
    score.next_number = read_next_number(reader)
    score.notes = read_notes(reader, score.next_number)
    if reader.begin < len(row):
        raise NoScoresRow("something stands behind it")
    return score
