"""The interface: a list of calls on a new score in, the list of their answers out."""

from scorebookdesk.limits import TIME_END, VOICE_COUNT
from scorebookdesk.lines import points_fit, points_of
from scorebookdesk.notes import Note, note_fits
from scorebookdesk.score import Score, next_change, note_numbered, samples, sounding, sums
from scorebookdesk.voices import Voice, voice_fits

NOT_AS_TOLD = -1
NO_SUCH_NOTE = -4
NONE_LATER = -5
NO_ROOM = -6

MOST_NOTES = 64
NUMBERS_END = 4294967296  # 2 ** 32: every note's number lies below it
LONGEST_PART = 256


def with_list(number, numbers):
    """An answer of a number and a list."""
    return [number, len(numbers)] + numbers


def part_fits(first, n):
    """Whether a part of n samples may be asked for from first on."""
    return n <= LONGEST_PART and first + n <= TIME_END


def answer_voice(score, numbers):
    """voice: v, wave, rise, fall, stay, fade."""
    v = numbers[0]
    if v >= VOICE_COUNT or not voice_fits(numbers[1:]):
        return [NOT_AS_TOLD]
    score.voices[v] = Voice(numbers[1:])
    return [0]


def answer_line(score, numbers):
    """line: v, how many numbers points has, points."""
    v = numbers[0]
    if v >= VOICE_COUNT or not points_fit(numbers[2:]):
        return [NOT_AS_TOLD]
    score.lines[v] = points_of(numbers[2:])
    return [len(score.lines[v])]


def answer_note(score, numbers):
    """note: v, at, len, step, level."""
    if not note_fits(numbers):
        return [NOT_AS_TOLD]
    number = score.next_number
    if len(score.notes) >= MOST_NOTES or number >= NUMBERS_END:
        return [NO_ROOM]
    score.notes.append(Note(number, numbers))
    score.next_number = number + 1
    return [number]


def answer_drop(score, numbers):
    """drop: id."""
    dropped = note_numbered(score, numbers[0])
    if dropped is None:
        return [NO_SUCH_NOTE]
    score.notes = [note for note in score.notes if note.number != dropped.number]
    return [0]


def answer_move(score, numbers):
    """move: id, at."""
    if numbers[1] >= TIME_END:
        return [NOT_AS_TOLD]
    note = note_numbered(score, numbers[0])
    if note is None:
        return [NO_SUCH_NOTE]
    note.at = numbers[1]
    return [0]


def answer_render(score, numbers):
    """render: first, n."""
    if not part_fits(numbers[0], numbers[1]):
        return [NOT_AS_TOLD]
    return with_list(numbers[1], samples(score, numbers[0], numbers[1]))


def answer_raw(score, numbers):
    """raw: first, n."""
    if not part_fits(numbers[0], numbers[1]):
        return [NOT_AS_TOLD]
    return with_list(numbers[1], sums(score, numbers[0], numbers[1]))


def answer_sounds(score, numbers):
    """sounds: t."""
    if numbers[0] >= TIME_END:
        return [NOT_AS_TOLD]
    found = sounding(score, numbers[0])
    return with_list(len(found), found)


def answer_next(score, numbers):
    """next: t."""
    if numbers[0] >= TIME_END:
        return [NOT_AS_TOLD]
    found = next_change(score, numbers[0])
    if found is None:
        return [NONE_LATER]
    return [found]


# The place of a call in these two is the call's number.
ANSWERERS = (
    answer_voice,
    answer_line,
    answer_note,
    answer_drop,
    answer_move,
    answer_render,
    answer_raw,
    answer_sounds,
    answer_next,
)
PLAIN_NUMBERS = (6, 1, 5, 1, 2, 2, 2, 1, 1)
CALLS_WITH_ROW = (1,)


def call_end(calls, begin):
    """Where the call that begins there ends."""
    end = begin + 1 + PLAIN_NUMBERS[calls[begin]]
    if calls[begin] in CALLS_WITH_ROW:
        return end + 1 + calls[end]
    return end


def answers(calls):
    """The answers to the calls in order, each behind its count of numbers."""
    score = Score()
    given = []
    begin = 0
    while begin < len(calls):
        end = call_end(calls, begin)
        answer = ANSWERERS[calls[begin]](score, calls[begin + 1:end])
        given.append(len(answer))
        given.extend(answer)
        begin = end
    return given
