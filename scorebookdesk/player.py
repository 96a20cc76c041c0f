"""The interface: a list of calls on a new score in, the list of their answers out."""

from scorebookdesk.limits import MOST_NOTES, NUMBERS_END, TIME_END, VOICE_COUNT, none_above
from scorebookdesk.lines import line_value, points_fit, points_of
from scorebookdesk.notes import Note, note_fits, note_numbers
from scorebookdesk.rows import NoScoresRow, row_of, score_of
from scorebookdesk.score import Score, next_change, note_numbered, peak, samples, sounding, sums
from scorebookdesk.voices import Voice, loudness, voice_fits

NOT_AS_TOLD = -1
NO_SUCH_NOTE = -4
NONE_LATER = -5
NO_ROOM = -6
NO_ROW = -6

LONGEST_PART = 256
GREATEST_OF_LOUD = (7, 16777216, 33554432)  # voice, len, k


class Player:
    """A score without notes, and the place to play from."""

    def __init__(self):
        self.score = Score()
        self.place = 0


def with_lists(number, lists):
    """An answer of a number and lists, each behind how many numbers it has."""
    answer = [number]
    for numbers in lists:
        answer.append(len(numbers))
        answer.extend(numbers)
    return answer


def part_fits(first, n):
    """Whether a part of n samples may be asked for from first on."""
    return n <= LONGEST_PART and first + n <= TIME_END


def answer_voice(player, numbers):
    """voice: v, wave, rise, fall, stay, fade."""
    v = numbers[0]
    if v >= VOICE_COUNT or not voice_fits(numbers[1:]):
        return [NOT_AS_TOLD]
    score = player.score
    score.voices[v] = Voice(numbers[1:])
    return [0]


def answer_line(player, numbers):
    """line: v, how many numbers points has, points."""
    v = numbers[0]
    if v >= VOICE_COUNT or not points_fit(numbers[2:]):
        return [NOT_AS_TOLD]
    score = player.score
    score.lines[v] = points_of(numbers[2:])
    return [len(score.lines[v])]


def answer_note(player, numbers):
    """note: v, at, len, step, level."""
    if not note_fits(numbers):
        return [NOT_AS_TOLD]
    score = player.score
    number = score.next_number
    if len(score.notes) >= MOST_NOTES or number >= NUMBERS_END:
        return [NO_ROOM]
    score.notes.append(Note(number, numbers))
    score.next_number = number + 1
    return [number]


def answer_drop(player, numbers):
    """drop: id."""
    score = player.score
    dropped = note_numbered(score, numbers[0])
    if dropped is None:
        return [NO_SUCH_NOTE]
    score.notes = [note for note in score.notes if note.number != dropped.number]
    return [0]


def answer_move(player, numbers):
    """move: id, at."""
    if numbers[1] >= TIME_END:
        return [NOT_AS_TOLD]
    note = note_numbered(player.score, numbers[0])
    if note is None:
        return [NO_SUCH_NOTE]
    note.at = numbers[1]
    return [0]


def answer_render(player, numbers):
    """render: first, n."""
    if not part_fits(numbers[0], numbers[1]):
        return [NOT_AS_TOLD]
    return with_lists(numbers[1], [samples(player.score, numbers[0], numbers[1])])


def answer_raw(player, numbers):
    """raw: first, n."""
    if not part_fits(numbers[0], numbers[1]):
        return [NOT_AS_TOLD]
    return with_lists(numbers[1], [sums(player.score, numbers[0], numbers[1])])


def answer_sounds(player, numbers):
    """sounds: t."""
    if numbers[0] >= TIME_END:
        return [NOT_AS_TOLD]
    found = sounding(player.score, numbers[0])
    return with_lists(len(found), [found])


def answer_next(player, numbers):
    """next: t."""
    if numbers[0] >= TIME_END:
        return [NOT_AS_TOLD]
    found = next_change(player.score, numbers[0])
    if found is None:
        return [NONE_LATER]
    return [found]


def answer_loud(player, numbers):
    """loud: v, len, k."""
    if not none_above(numbers, GREATEST_OF_LOUD):
        return [NOT_AS_TOLD]
    return [loudness(player.score.voices[numbers[0]], numbers[1], numbers[2])]


def answer_line_at(player, numbers):
    """line_at: v, t."""
    if numbers[0] >= VOICE_COUNT or numbers[1] >= TIME_END:
        return [NOT_AS_TOLD]
    return [line_value(player.score.lines[numbers[0]], numbers[1])]


def answer_seek(player, numbers):
    """seek: t."""
    if numbers[0] >= TIME_END:
        return [NOT_AS_TOLD]
    player.place = numbers[0]
    return [0]


def answer_play(player, numbers):
    """play: n."""
    first = player.place
    n = numbers[0]
    if not part_fits(first, n):
        return [NOT_AS_TOLD]
    player.place = first + n
    return with_lists(player.place, [samples(player.score, first, n)])


def answer_peak(player, numbers):
    """peak: first, n."""
    if not part_fits(numbers[0], numbers[1]):
        return [NOT_AS_TOLD]
    found = peak(player.score, numbers[0], numbers[1])
    return with_lists(found[0], [[found[1]]])


def answer_notes(player, numbers):
    """notes, without a number."""
    found = [note_numbers(note) for note in player.score.notes]
    return with_lists(len(found), found)


def answer_save(player, numbers):
    """save, without a number."""
    row = row_of(player.score)
    return with_lists(len(row), [row])


def answer_load(player, numbers):
    """load: how many numbers row has, row."""
    try:
        player.score = score_of(numbers[1:])
    except NoScoresRow:
        return [NO_ROW]
    return [len(player.score.notes)]


# The place of a call in these two is the call's number.
ANSWERERS = (
    answer_voice,
    answer_line,
    answer_note,
    answer_drop,
    answer_move,
    answer_render,
    answer_raw,
    answer_sounds,
    answer_next,
    answer_loud,
    answer_line_at,
    answer_seek,
    answer_play,
    answer_peak,
    answer_notes,
    answer_save,
    answer_load,
)
PLAIN_NUMBERS = (6, 1, 5, 1, 2, 2, 2, 1, 1, 3, 2, 1, 1, 2, 0, 0, 0)
CALLS_WITH_ROW = (1, 16)


def call_end(calls, begin):
    """Where the call that begins there ends."""
    end = begin + 1 + PLAIN_NUMBERS[calls[begin]]
    if calls[begin] in CALLS_WITH_ROW:
        return end + 1 + calls[end]
    return end


def answers(calls):
    """The answers to the calls in order, each behind its count of numbers."""
    player = Player()
    given = []
    begin = 0
    while begin < len(calls):
        end = call_end(calls, begin)
        answer = ANSWERERS[calls[begin]](player, calls[begin + 1:end])
        given.append(len(answer))
        given.extend(answer)
        begin = end
    return given
