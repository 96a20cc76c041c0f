import unittest

from tests.helper import (
    GREATEST_NUMBER, TIME_END, ask, drop, last, load, move, note, sounding_in, sounds, sums_of, written_row,
)

FULL_SCORE = [note()] * 64


class NoteCall(unittest.TestCase):
    def test_numbers_in_the_order_in_which_they_are_put(self):
        self.assertEqual(ask(note(), note(3, 5, 6, 7, 8), note()), [[1], [2], [3]])

    def test_each_number_at_its_greatest_and_above(self):
        greatest = {"v": 7, "at": TIME_END - 1, "length": 2 ** 24, "step": 65535, "level": 256}
        for name, number in greatest.items():
            with self.subTest(name=name):
                self.assertEqual(last(note(**{name: number})), [1])
                self.assertEqual(last(note(**{name: number + 1})), [-1])
                self.assertEqual(last(note(**{name: GREATEST_NUMBER})), [-1])

    def test_each_number_at_its_least(self):
        self.assertEqual(last(note(0, 0, 1, 0, 0)), [1])
        self.assertEqual(last(note(length=0)), [-1])

    def test_all_at_their_greatest(self):
        self.assertEqual(last(note(7, TIME_END - 1, 2 ** 24, 65535, 256)), [1])

    def test_each_number_is_heard(self):
        calls = [note(2, at=3, length=2, step=65535, level=128)]
        self.assertEqual(sums_of(calls, 2, 5), [0, -16384, 16383, 0, 0])

    def test_longest_note(self):
        calls = [note(length=2 ** 24)]
        self.assertEqual(sums_of(calls, 2 ** 24 - 1, 2), [-32768, 0])

    def test_refused_note_takes_no_number(self):
        self.assertEqual(ask(note(8), note(), note(level=257), note()), [[-1], [1], [-1], [2]])

    def test_never_one_number_twice(self):
        self.assertEqual(
            ask(note(), note(), drop(2), note(), drop(1), drop(3), note()),
            [[1], [2], [0], [3], [0], [0], [4]],
        )

    def test_sixty_four_notes_and_no_more(self):
        found = ask(*FULL_SCORE, note(), note())
        self.assertEqual(found[:64], [[k] for k in range(1, 65)])
        self.assertEqual(found[64:], [[-6], [-6]])

    def test_refused_note_is_not_there(self):
        self.assertEqual(sounding_in(FULL_SCORE + [note()], 0), list(range(1, 65)))

    def test_room_again_after_drop(self):
        self.assertEqual(
            ask(*FULL_SCORE, note(), drop(10), note(), note())[64:], [[-6], [0], [65], [-6]]
        )

    def test_a_number_not_as_told_comes_before_no_room(self):
        for refused in (note(8), note(at=TIME_END), note(length=0), note(step=65536), note(level=257)):
            self.assertEqual(last(*FULL_SCORE, refused), [-1])

    def test_no_number_left(self):
        calls = [load(written_row(next_number=2 ** 32 - 1)), note(), note(), note(length=0), sounds(0)]
        self.assertEqual(ask(*calls), [[0], [2 ** 32 - 1], [-6], [-1], [1, 1, 2 ** 32 - 1]])

    def test_no_number_left_after_drop(self):
        calls = [load(written_row(next_number=2 ** 32 - 1)), note(), drop(2 ** 32 - 1), note()]
        self.assertEqual(ask(*calls)[1:], [[2 ** 32 - 1], [0], [-6]])


class DropCall(unittest.TestCase):
    THREE = [note(at=0, length=9, level=1), note(at=0, length=9, level=2), note(at=0, length=9, level=4)]

    def test_gone_from_sums_samples_and_sounds(self):
        self.assertEqual(sums_of(self.THREE, 0, 1), [-7 * 128])
        for number, level, left in ((1, 1, [2, 3]), (2, 2, [1, 3]), (3, 4, [1, 2])):
            calls = self.THREE + [drop(number)]
            self.assertEqual(last(*calls), [0])
            self.assertEqual(sums_of(calls, 0, 1), [(level - 7) * 128])
            self.assertEqual(last(*calls, [5, 0, 1]), [1, 1, (level - 7) * 128])
            self.assertEqual(sounding_in(calls, 0), left)

    def test_no_such_note(self):
        self.assertEqual(last(drop(1)), [-4])
        for number in (0, 4, 2 ** 32, 2 ** 40, GREATEST_NUMBER):
            calls = self.THREE + [drop(number)]
            self.assertEqual(last(*calls), [-4])
            self.assertEqual(sounding_in(calls, 0), [1, 2, 3])

    def test_not_twice(self):
        self.assertEqual(ask(note(), drop(1), drop(1)), [[1], [0], [-4]])

    def test_a_refused_note_has_no_number_to_drop(self):
        self.assertEqual(ask(note(8), drop(1)), [[-1], [-4]])


class MoveCall(unittest.TestCase):
    def test_seen_in_sums_samples_sounds_and_next(self):
        calls = [note(at=3, length=2, step=100), move(1, 1)]
        self.assertEqual(last(*calls), [0])
        self.assertEqual(sums_of(calls, 0, 6), [0, -32768, -32668, 0, 0, 0])
        self.assertEqual(last(*calls, [5, 0, 6]), [6, 6, 0, -32768, -32668, 0, 0, 0])
        self.assertEqual([sounding_in(calls, t) for t in range(4)], [[], [1], [1], []])
        self.assertEqual(last(*calls, [8, 0]), [1])
        self.assertEqual(last(*calls, [8, 1]), [3])

    def test_only_that_note(self):
        calls = [note(at=0), note(at=0), note(at=0), move(2, 5)]
        self.assertEqual(sounding_in(calls, 0), [1, 3])
        self.assertEqual(sounding_in(calls, 5), [2])

    def test_the_order_stays(self):
        calls = [note(at=k, length=50) for k in (9, 4, 7)]
        self.assertEqual(sounding_in(calls, 20), [1, 2, 3])
        self.assertEqual(sounding_in(calls + [move(3, 0), move(1, 15)], 20), [1, 2, 3])

    def test_the_order_stays_round_a_dropped_note(self):
        calls = [note(length=50), note(length=50), note(length=50), drop(2), move(1, 2), note(length=50)]
        self.assertEqual(sounding_in(calls, 10), [1, 3, 4])

    def test_to_its_own_place(self):
        self.assertEqual(ask(note(at=3), move(1, 3), [7, 3]), [[1], [0], [1, 1, 1]])

    def test_no_such_note(self):
        self.assertEqual(last(move(1, 0)), [-4])
        for number in (0, 2, 2 ** 32, GREATEST_NUMBER):
            calls = [note(), move(number, 5)]
            self.assertEqual(last(*calls), [-4])
            self.assertEqual(sounding_in(calls, 0), [1])
        self.assertEqual(last(note(), drop(1), move(1, 5)), [-4])

    def test_time_at_its_greatest_and_above(self):
        self.assertEqual(last(note(), move(1, TIME_END - 1)), [0])
        self.assertEqual(sounding_in([note(), move(1, TIME_END - 1)], TIME_END - 1), [1])
        for at in (TIME_END, GREATEST_NUMBER):
            self.assertEqual(last(note(), move(1, at)), [-1])
            self.assertEqual(sounding_in([note(), move(1, at)], 0), [1])

    def test_a_time_not_as_told_comes_before_no_such_note(self):
        self.assertEqual(last(move(1, TIME_END)), [-1])


if __name__ == "__main__":
    unittest.main()
