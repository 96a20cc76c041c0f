import unittest

from tests.helper import (
    GREATEST_NUMBER, TIME_END, all_notes, ask, drop, flat, following, last, line, line_at, load, loud, move,
    note, notes_of, peak, play, raw, render, row_after, save, seek, sounds, voice, written_row,
)

LAST_LINES_COUNT = 47  # these two places are those of a row whose lines have no points
COUNT_OF_NOTES = 49
SIXTEEN = [(10 * k, 16 * k) for k in range(16)]
FULL_SCORE = [note(k % 8, k, k + 1, 2 * k, 4 * k) for k in range(64)]
CALLS = [
    voice(0, 1, 2, 3, 4, 5), voice(7, 3, 65535, 65534, 256, 65533), line(0, 4, 5),
    line(2, *[number for point in SIXTEEN for number in point]), line(7, 0, 256, TIME_END - 1, 0),
    note(1, 2, 3, 4, 5), note(7, TIME_END - 1, 2 ** 24, 65535, 256), note(2, 40, 30, 777, 99), note(),
    drop(2), move(3, 41), note(0, 9, 8, 7, 6),
]
VOICES = [(1, 2, 3, 4, 5)] + [(0, 0, 0, 256, 0)] * 6 + [(3, 65535, 65534, 256, 65533)]
LINES = [[(4, 5)], [], SIXTEEN, [], [], [], [], [(0, 256), (TIME_END - 1, 0)]]
NOTES = [[1, 1, 2, 3, 4, 5], [3, 2, 41, 30, 777, 99], [4, 0, 0, 1, 0, 256], [5, 0, 9, 8, 7, 6]]
ROW = written_row(VOICES, LINES, 6, NOTES)
ASKED = (
    [render(0, 100), raw(0, 100), render(TIME_END - 256, 256), all_notes(), save(), peak(0, 90), play(80)]
    + [sounds(t) for t in range(0, 90, 3)] + [following(t) for t in range(0, 90, 3)]
    + [loud(v, 9, k) for v in range(8) for k in (0, 3, 11)] + [line_at(v, 33) for v in range(8)]
)


class NotesCall(unittest.TestCase):
    def test_none(self):
        self.assertEqual(last(all_notes()), [0])
        self.assertEqual(last(note(), drop(1), all_notes()), [0])

    def test_number_by_number(self):
        calls = [note(1, 2, 3, 4, 5), note(7, TIME_END - 1, 2 ** 24, 65535, 256), all_notes()]
        self.assertEqual(last(*calls), [2, 6, 1, 1, 2, 3, 4, 5, 6, 2, 7, TIME_END - 1, 2 ** 24, 65535, 256])

    def test_after_drop_and_move(self):
        self.assertEqual(notes_of(CALLS), NOTES)
        self.assertEqual(notes_of([note(at=5), note(at=6), note(at=7), move(3, 0), drop(1)]), [
            [2, 0, 6, 1, 0, 256], [3, 0, 0, 1, 0, 256],
        ])

    def test_sixty_four(self):
        self.assertEqual(notes_of(FULL_SCORE), [[k + 1, k % 8, k, k + 1, 2 * k, 4 * k] for k in range(64)])

    def test_refused_notes_are_not_there(self):
        self.assertEqual(notes_of([note(), note(8), note(length=0)]), [[1, 0, 0, 1, 0, 256]])
        self.assertEqual(notes_of(FULL_SCORE + [note()]), notes_of(FULL_SCORE))

    def test_nothing_is_changed(self):
        self.assertEqual(ask(*CALLS, all_notes(), *ASKED)[len(CALLS) + 1:], ask(*CALLS, *ASKED)[len(CALLS):])


class SaveCall(unittest.TestCase):
    def test_of_a_new_score(self):
        row = [0, 0, 0, 256, 0] * 8 + [0] * 8 + [1, 0]
        self.assertEqual(last(save()), [50, 50] + row)

    def test_of_some_notes(self):
        self.assertEqual(row_after([note(1, 2, 3, 4, 5)])[-8:], [2, 1, 1, 1, 2, 3, 4, 5])
        self.assertEqual(row_after([note(1, 2, 3, 4, 5), drop(1)]), written_row(next_number=2))

    def test_after_drop_and_move(self):
        self.assertEqual(row_after(CALLS), ROW)

    def test_each_voices_numbers_in_their_place(self):
        calls = [voice(v, v % 4, v + 10, v + 20, v + 30, v + 40) for v in range(8)]
        told = [number for v in range(8) for number in (v % 4, v + 10, v + 20, v + 30, v + 40)]
        self.assertEqual(row_after(calls)[:40], told)

    def test_each_voices_line_in_its_place(self):
        calls = [line(v, *range(2 * v)) for v in range(8)]
        told = [number for v in range(8) for number in [v] + list(range(2 * v))]
        self.assertEqual(row_after(calls)[40:-2], told)

    def test_lines_with_no_and_with_sixteen_points(self):
        numbers = [number for point in SIXTEEN for number in point]
        self.assertEqual(row_after([line(3, *numbers)])[40:-2], [0, 0, 0, 16] + numbers + [0, 0, 0, 0])
        self.assertEqual(row_after([line(3, *numbers), line(3)]), row_after([]))

    def test_sixty_four_notes_and_full_lines(self):
        numbers = [number for point in SIXTEEN for number in point]
        calls = [line(v, *numbers) for v in range(8)] + FULL_SCORE
        row = row_after(calls)
        self.assertEqual(len(row), 40 + 8 * 33 + 2 + 64 * 6)
        self.assertEqual(row, written_row((), [SIXTEEN] * 8, 65, notes_of(FULL_SCORE)))

    def test_nothing_is_changed(self):
        self.assertEqual(ask(*CALLS, save(), *ASKED)[len(CALLS) + 1:], ask(*CALLS, *ASKED)[len(CALLS):])


class LoadCall(unittest.TestCase):
    def test_answers_how_many_notes(self):
        self.assertEqual(last(load(written_row())), [0])
        self.assertEqual(last(load(written_row(next_number=9, notes=[(5, 0, 0, 1, 0, 0)]))), [1])
        self.assertEqual(last(load(ROW)), [4])
        self.assertEqual(last(load(row_after(FULL_SCORE))), [64])

    def test_save_load_save(self):
        for calls in ([], CALLS, FULL_SCORE, [note(), drop(1)], [voice(4, 1, 1, 1, 1, 1), line(6, 7, 8)]):
            row = row_after(calls)
            self.assertEqual(row_after([load(row)]), row)
            self.assertEqual(row_after(CALLS + [load(row)]), row)
            self.assertEqual(row_after(calls + [load(row), load(row)]), row)

    def test_all_is_the_same_score(self):
        for before in ([], [note(), note()], FULL_SCORE):
            calls = before + [load(ROW)]
            self.assertEqual(ask(*calls, *ASKED)[len(calls):], ask(*CALLS, *ASKED)[len(CALLS):])

    def test_what_was_there_before_is_gone(self):
        calls = [voice(1, 1, 1, 1, 1, 1), line(1, 0, 0), note(1), note(), load(written_row())]
        self.assertEqual(row_after(calls), written_row())
        self.assertEqual(ask(*calls, note(1), render(0, 2))[5:], [[1], [2, 2, -32768, 0]])

    def test_calls_go_on_from_it(self):
        after = [move(3, 0), note(2, 5, 5, 5, 5), drop(1), voice(2, 1), line(2, 3, 3), line(0), drop(4), save()]
        self.assertEqual(ask(load(ROW), *after)[1:], ask(*CALLS, *after)[len(CALLS):])

    def test_what_comes_later_leaves_a_saved_row_as_it_was(self):
        later = [move(3, 0), voice(0), line(2), drop(1), note()]
        found = ask(*CALLS, save(), *later, load(ROW), save())
        self.assertEqual(found[len(CALLS)], found[-1])
        self.assertEqual(ask(load(ROW), *later, load(ROW), *ASKED)[-len(ASKED):], ask(load(ROW), *ASKED)[1:])

    def test_the_next_number_goes_on_from_the_rows(self):
        self.assertEqual(ask(note(), note(), load(written_row(next_number=7)), note(), note())[3:], [[7], [8]])
        self.assertEqual(ask(*FULL_SCORE, load(written_row()), note())[-1], [1])
        self.assertEqual(ask(load(written_row(next_number=2 ** 32 - 1)), note(), note()), [[0], [2 ** 32 - 1], [-6]])

    def test_no_number_left(self):
        row = written_row(next_number=2 ** 32, notes=[(2 ** 32 - 1, 0, 0, 1, 0, 256)])
        self.assertEqual(ask(load(row), note(), sounds(0), drop(2 ** 32 - 1), note(), note(8)), [
            [1], [-6], [1, 1, 2 ** 32 - 1], [0], [-6], [-1],
        ])
        self.assertEqual(row_after([load(row)]), row)

    def test_the_notes_order_is_the_rows(self):
        notes = [[9, 0, 0, 5, 0, 1], [2, 0, 0, 5, 0, 2], [5, 0, 0, 5, 0, 4]]
        calls = [load(written_row(next_number=10, notes=notes))]
        self.assertEqual(ask(*calls, sounds(0), raw(0, 1)), [[3], [3, 3, 9, 2, 5], [1, 1, -128 * 7]])
        self.assertEqual(notes_of(calls), notes)
        self.assertEqual(notes_of(calls + [note(), drop(2)]), [notes[0], notes[2], [10, 0, 0, 1, 0, 256]])

    def test_full_score_has_no_room(self):
        self.assertEqual(ask(load(row_after(FULL_SCORE)), note(), drop(7), note(), note())[1:], [[-6], [0], [65], [-6]])

    def test_each_number_at_its_greatest(self):
        for row in (
            written_row([(3, 65535, 65535, 256, 65535)] * 8),
            written_row((), [SIXTEEN[:-1] + [(TIME_END - 1, 256)]] * 8),
            written_row(next_number=2 ** 32),
            written_row(next_number=2 ** 32, notes=[(2 ** 32 - 1, 7, TIME_END - 1, 2 ** 24, 65535, 256)]),
        ):
            self.assertEqual(last(load(row), save()), [len(row), len(row)] + row)

    def test_each_number_at_its_least(self):
        row = written_row([(0, 0, 0, 0, 0)] * 8, [[(0, 0)]] * 8, 2, [(1, 0, 0, 1, 0, 0)])
        self.assertEqual(row_after([load(row)]), row)


class RowsThatAreRefused(unittest.TestCase):
    def refused(self, row):
        """Load refuses the row, and what was there stays."""
        expected = ask(*CALLS, seek(6), *ASKED)[len(CALLS) + 1:]
        found = ask(*CALLS, seek(6), load(row), *ASKED)[len(CALLS) + 1:]
        self.assertEqual(found[0], [-6])
        self.assertEqual(found[1:], expected)

    def alone(self, row):
        """Load refuses the row."""
        self.assertEqual(ask(load(row), save()), [[-6], [50, 50] + written_row()])

    def test_the_empty_row(self):
        self.refused([])

    def test_too_short_at_every_length(self):
        for row in (ROW, written_row(), written_row(next_number=65, notes=notes_of(FULL_SCORE))):
            for size in range(len(row)):
                with self.subTest(size=size):
                    self.alone(row[:size])
        self.refused(ROW[:-1])
        self.refused(ROW[:45])

    def test_one_number_too_many(self):
        for row in (ROW, written_row(), row_after(FULL_SCORE)):
            for number in (0, 1, GREATEST_NUMBER):
                self.alone(row + [number])
        self.refused(ROW + [0])
        self.alone(written_row() + [1, 0, 0, 1, 0, 0])
        self.alone(written_row() + [0] * 15000)

    def test_each_number_of_each_voice_one_above(self):
        for v in range(8):
            for place, greatest in enumerate((3, 65535, 65535, 256, 65535)):
                for number in (greatest + 1, GREATEST_NUMBER):
                    row = written_row()
                    row[5 * v + place] = number
                    self.alone(row)
                row[5 * v + place] = greatest
                self.assertEqual(last(load(row)), [0])
        self.refused(written_row([(4, 0, 0, 0, 0)]))

    def test_each_number_of_a_line_one_above(self):
        for v in range(8):
            lines = [()] * v
            self.assertEqual(last(load(written_row((), lines + [[(1, 2), (TIME_END - 1, 256)]]))), [0])
            for point in ((TIME_END, 256), (TIME_END - 1, 257), (GREATEST_NUMBER, 0), (5, GREATEST_NUMBER)):
                self.alone(written_row((), lines + [[(1, 2), point]]))
                self.alone(written_row((), lines + [[point]]))
        self.refused(written_row((), [[(1, 257)]]))

    def test_a_line_with_seventeen_points(self):
        for v in range(8):
            lines = [()] * v
            self.assertEqual(last(load(written_row((), lines + [SIXTEEN]))), [0])
            self.alone(written_row((), lines + [SIXTEEN + [(160, 0)]]))
        self.refused(written_row((), [SIXTEEN + [(160, 0)]]))

    def test_a_count_of_points_that_does_not_fit(self):
        for count in (1, 2, 16, 17, 2 ** 63, GREATEST_NUMBER):
            row = written_row()
            row[LAST_LINES_COUNT] = count
            self.alone(row)

    def test_times_of_a_line_that_do_not_rise(self):
        for v in range(8):
            for points in ([(5, 1), (5, 2)], [(5, 1), (4, 2)], [(0, 1), (0, 1)], [(1, 0), (2, 0), (3, 0), (3, 0)]):
                self.alone(written_row((), [()] * v + [points]))
        self.refused(written_row((), [[(5, 1), (5, 2)]]))

    def test_sixty_five_notes(self):
        notes = [(k, 0, 0, 1, 0, 0) for k in range(1, 66)]
        self.assertEqual(last(load(written_row(next_number=66, notes=notes[:64]))), [64])
        self.alone(written_row(next_number=66, notes=notes))
        self.refused(written_row(next_number=66, notes=notes))

    def test_a_count_of_notes_that_does_not_fit(self):
        for count in (0, 2, 3, 64, 65, GREATEST_NUMBER):
            row = written_row(next_number=9, notes=[(1, 0, 0, 1, 0, 0)])
            row[COUNT_OF_NOTES] = count
            self.alone(row)

    def test_each_number_of_a_note_one_above(self):
        good = [3, 7, TIME_END - 1, 2 ** 24, 65535, 256]
        for before in ([], [[1, 0, 0, 1, 0, 0]]):
            self.assertEqual(last(load(written_row(next_number=4, notes=before + [good]))), [1 + len(before)])
            for place in range(6):
                for number in (good[place] + 1, GREATEST_NUMBER):
                    bad = good[:place] + [number] + good[place + 1:]
                    self.alone(written_row(next_number=4, notes=before + [bad]))
                    self.alone(written_row(next_number=4, notes=[bad] + before))
            self.refused(written_row(next_number=4, notes=before + [good[:5] + [257]]))

    def test_a_note_of_no_samples(self):
        self.refused(written_row(next_number=4, notes=[(1, 0, 0, 0, 0, 0)]))

    def test_a_notes_number(self):
        for numbers in ((0,), (4,), (5,), (1, 0), (0, 1), (3, 4), (4, 3), (2, 2), (1, 2, 1), (3, 1, 1), (2 ** 32,)):
            notes = [(number, 0, k, 1, 0, 0) for k, number in enumerate(numbers)]
            with self.subTest(numbers=numbers):
                self.refused(written_row(next_number=4, notes=notes))
        for numbers in ((1,), (3,), (1, 2, 3), (3, 2, 1)):
            notes = [(number, 0, 0, 1, 0, 0) for number in numbers]
            self.assertEqual(last(load(written_row(next_number=4, notes=notes))), [len(numbers)])

    def test_the_next_notes_number(self):
        for number in (1, 2, 2 ** 32 - 1, 2 ** 32):
            self.assertEqual(last(load(written_row(next_number=number))), [0])
        for number in (0, 2 ** 32 + 1, 2 ** 40, GREATEST_NUMBER):
            self.refused(written_row(next_number=number))
        self.alone(written_row(next_number=1, notes=[(1, 0, 0, 1, 0, 0)]))
        self.alone(written_row(next_number=2 ** 32 + 1, notes=[(2 ** 32, 0, 0, 1, 0, 0)]))

    def test_the_longest_row(self):
        self.assertEqual(ask(load([0] * 15998)), [[-6]])
        self.assertEqual(ask(load([GREATEST_NUMBER] * 15997), [14]), [[-6], [0]])

    def test_a_good_row_behind_a_refused_one(self):
        found = ask(load(ROW[:-1]), load(ROW), load(ROW + [0]), save())
        self.assertEqual(found, [[-6], [4], [-6], [len(ROW), len(ROW)] + ROW])

    def test_a_call_begins_where_the_one_before_ends(self):
        for row in ([], [14], [15, 15], ROW, ROW + [16], [16, 1, 1]):
            self.assertEqual(ask(load(row), seek(3), play(0))[1:], [[0], [3, 0]])
            self.assertEqual(len(flat([load(row)])), 2 + len(row))


if __name__ == "__main__":
    unittest.main()
