import unittest

from scorebookdesk.player import answers
from tests.helper import (
    GREATEST_NUMBER, TIME_END, all_notes, ask, drop, flat, following, line, line_at, load, loud, move, note,
    parted, peak, play, raw, render, save, seek, sounds, voice, written_row,
)

MIXED = [
    voice(1, 3, 2, 3, 100, 4), line(1, 0, 0, 50, 256), note(1, 2, 9, 3000, 200), note(0, 4, 5, 7, 90),
    render(0, 20), raw(3, 4), sounds(5), following(5), move(1, 6), render(0, 20), drop(2),
    sounds(6), following(30), note(9), move(2, 1), voice(1, 4), line(1, 7), raw(0, 257),
    loud(1, 9, 11), line_at(1, 7), seek(4), play(9), peak(0, 20), all_notes(), save(), play(3),
    load(written_row([(1, 0, 0, 9, 0)], [[(3, 4)]], 9, [(7, 0, 1, 2, 3, 4)])), play(4), all_notes(), note(),
    save(), load([1, 2, 3]), loud(8, 0, 0), line_at(0, 0), seek(TIME_END), play(257), peak(0, 2),
]
REFUSED = [
    voice(8), voice(0, 4), voice(1, stay=257), line(8), line(1, 5), line(1, 5, 1, 5, 1),
    line(1, TIME_END, 0), line(1, 0, 257), note(8), note(at=TIME_END), note(length=0), note(level=257),
    drop(0), drop(99), move(99, 0), move(1, TIME_END), render(0, 257), raw(TIME_END, 1),
    sounds(TIME_END), following(TIME_END), following(TIME_END - 1), loud(8, 1, 1), loud(0, 2 ** 24 + 1, 1),
    loud(0, 1, 2 ** 25 + 1), line_at(8, 1), line_at(1, TIME_END), seek(TIME_END), play(257), peak(0, 257),
    peak(TIME_END, 1), load([]), load(written_row()[:-1]), load(written_row() + [0]),
    load(written_row(next_number=0)), load(written_row(next_number=3, notes=[(1, 8, 0, 1, 0, 0)])),
]
REFUSALS = [-1] * 12 + [-4] * 3 + [-1] * 5 + [-5] + [-1] * 9 + [-6] * 5


class Untouchable(list):
    """A list that no call may change, not even for a while."""

    def refuse(self, *arguments, **keywords):
        raise AssertionError("the list that was handed in is changed")

    append = extend = insert = pop = remove = clear = reverse = sort = refuse
    __setitem__ = __delitem__ = __iadd__ = __imul__ = refuse


class Interface(unittest.TestCase):
    def test_no_calls(self):
        self.assertEqual(answers([]), [])

    def test_each_calls_answer_number_by_number(self):
        for call, found in (
            (voice(), [1, 0]),
            (line(0), [1, 0]),
            (line(0, 1, 2), [1, 1]),
            (note(), [1, 1]),
            (drop(1), [1, -4]),
            (move(1, 0), [1, -4]),
            (render(0, 0), [2, 0, 0]),
            (render(0, 2), [4, 2, 2, 0, 0]),
            (raw(0, 0), [2, 0, 0]),
            (raw(0, 1), [3, 1, 1, 0]),
            (sounds(0), [2, 0, 0]),
            (following(0), [1, -5]),
            (loud(0, 1, 0), [1, 256]),
            (line_at(0, 0), [1, 256]),
            (seek(5), [1, 0]),
            (play(0), [2, 0, 0]),
            (play(2), [4, 2, 2, 0, 0]),
            (peak(3, 2), [3, 0, 1, 3]),
            (all_notes(), [1, 0]),
            (save(), [52, 50, 50] + written_row()),
            (load(written_row()), [1, 0]),
            (load([]), [1, -6]),
        ):
            with self.subTest(call=call):
                self.assertEqual(answers(call), found)

    def test_done_calls_number_by_number(self):
        calls = [note(at=1, length=2, step=1), sounds(1), following(0), raw(0, 3), move(1, 0), drop(1)]
        self.assertEqual(
            answers(flat(calls)),
            [1, 1, 3, 1, 1, 1, 1, 1, 5, 3, 3, 0, -32768, -32767, 1, 0, 1, 0],
        )

    def test_all_calls_in_one_list_number_by_number(self):
        calls = [
            voice(1, 1, 0, 0, 128, 2), line(1, 0, 256, 2, 128), note(1, 1, 1, 0, 256), note(0, 2, 2, 7, 256),
            drop(1), move(2, 1), render(0, 3), raw(0, 3), sounds(1), following(1), loud(1, 1, 2),
            line_at(1, 1), seek(2), play(2), peak(0, 4), all_notes(), save(),
            load(written_row(next_number=4, notes=[(3, 1, 3, 9, 0, 0)])), play(1), sounds(3), note(), save(),
        ]
        self.assertEqual(sorted({call[0] for call in calls}), list(range(17)))
        row = written_row([(0, 0, 0, 256, 0), (1, 0, 0, 128, 2)], [[], [(0, 256), (2, 128)]], 3, [(2, 0, 1, 2, 7, 256)])
        loaded = written_row(next_number=5, notes=[(3, 1, 3, 9, 0, 0), (4, 0, 0, 1, 0, 256)])
        self.assertEqual(
            answers(flat(calls)),
            [1, 0, 1, 2, 1, 1, 1, 2, 1, 0, 1, 0]
            + [5, 3, 3, 0, -32768, -32761] + [5, 3, 3, 0, -32768, -32761] + [3, 1, 1, 2] + [1, 3]
            + [1, 64] + [1, 192] + [1, 0] + [4, 4, 2, -32761, 0] + [3, 32768, 1, 1]
            + [8, 1, 6, 2, 0, 1, 2, 7, 256] + [62, 60, 60] + row
            + [1, 1] + [3, 5, 1, 0] + [3, 1, 1, 3] + [1, 4] + [64, 62, 62] + loaded,
        )

    def test_many_calls_in_one_list(self):
        calls = [voice(k % 8) for k in range(900)] + [note()] * 60 + [sounds(0)] * 40
        found = ask(*calls)
        self.assertEqual(found[:900], [[0]] * 900)
        self.assertEqual(found[900:960], [[k] for k in range(1, 61)])
        self.assertEqual(found[960:], [[60, 60] + list(range(1, 61))] * 40)

    def test_the_longest_list(self):
        calls = flat([note(), line(0, *[GREATEST_NUMBER] * 15981), note(), sounds(0), drop(1)])
        self.assertEqual(len(calls), 16000)
        self.assertEqual(parted(answers(calls)), [[1], [-1], [2], [2, 2, 1, 2], [0]])

    def test_a_thousand_calls(self):
        found = ask(*[play(1)] * 500, *[save()] * 200, *[all_notes()] * 200, *[load(written_row())] * 100)
        self.assertEqual(found[:500], [[k, 1, 0] for k in range(1, 501)])
        self.assertEqual(found[500:], [[50, 50] + written_row()] * 200 + [[0]] * 300)

    def test_a_call_begins_where_the_one_before_ends(self):
        for points in ((), (2, 2), (0, 0, 1, 1), (5,), (1, 1) * 40):
            found = ask(line(0, *points), note(), drop(1))
            self.assertEqual(found[1:], [[1], [0]])

    def test_whole_numbers_and_a_list(self):
        found = answers(flat(MIXED))
        self.assertIs(type(found), list)
        self.assertEqual({type(number) for number in found}, {int})

    def test_a_refusal_is_its_number_alone(self):
        self.assertEqual(ask(note(), *REFUSED)[1:], [[number] for number in REFUSALS])

    def test_what_is_handed_in_stays_as_it_was(self):
        calls = flat(MIXED)
        before = list(calls)
        answers(calls)
        self.assertEqual(calls, before)
        self.assertEqual(answers(Untouchable(before)), answers(before))

    def test_nothing_is_kept_from_one_time_to_the_next(self):
        first = answers(flat(MIXED))
        answers(flat([voice(v, 1, 1, 1, 1, 1) for v in range(8)] + [line(1, 0, 0), note(), note(), seek(9)]))
        self.assertEqual(answers(flat(MIXED)), first)
        self.assertEqual(ask(note(1), sounds(0), raw(0, 2)), [[1], [1, 1, 1], [2, 2, -32768, 0]])
        answers(load(written_row([(1, 1, 1, 1, 1)] * 8, [[(1, 1)]] * 8, 9, [(3, 0, 0, 1, 0, 0)])))
        self.assertEqual(ask(play(0), save(), note()), [[0, 0], [50, 50] + written_row(), [1]])

    def test_what_is_given_back_is_nobodys_else(self):
        calls = flat(MIXED)
        first = answers(calls)
        kept = list(first)
        first.clear()
        self.assertEqual(answers(calls), kept)


class RefusedCallsChangeNothing(unittest.TestCase):
    BEFORE = [
        voice(1, 3, 2, 3, 100, 4), line(1, 0, 0, 50, 256), note(1, 2, 9, 3000, 200),
        note(0, 4, 5, 7, 90), note(1, 0, 7, 500, 128), seek(3), play(2),
    ]
    AFTER = [save(), all_notes(), play(20), render(0, 40), raw(0, 40)] + [sounds(t) for t in range(20)] + [
        following(t) for t in range(20)
    ] + [note(), move(2, 3), drop(1), render(0, 40), save()]

    def test_each(self):
        expected = ask(*self.BEFORE, *self.AFTER)[len(self.BEFORE):]
        for refused in REFUSED:
            with self.subTest(refused=refused):
                found = ask(*self.BEFORE, refused, *self.AFTER)
                self.assertEqual(found[len(self.BEFORE) + 1:], expected)

    def test_no_room(self):
        full = [note(at=k, length=9, step=k) for k in range(64)]
        after = [save(), render(0, 90), sounds(50), following(72), drop(4), note()]
        expected = ask(*full, *after)[64:]
        self.assertEqual(ask(*full, note(), *after)[65:], expected)


if __name__ == "__main__":
    unittest.main()
