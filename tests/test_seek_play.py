import unittest

from tests.helper import (
    GREATEST_NUMBER, TIME_END, ask, drop, last, line, listed, load, move, note, play, raw, render,
    row_after, samples_of, save, seek, voice,
)

SCORE = [
    voice(1, 3, 2, 3, 100, 4), line(1, 0, 0, 50, 256), note(1, 2, 9, 3000, 200), note(0, 4, 50, 700, 90),
    note(0, 20, 30, 2000, 256), note(1, 25, 40, 12345, 256),
]


def played(calls, sizes):
    """The samples of parts of these sizes, played one behind another."""
    answers = ask(*calls, *[play(n) for n in sizes])[len(calls):]
    return [sample for answer in answers for sample in listed(answer)]


def place_after(calls):
    answer = last(*calls, play(0))
    if answer[1:] != [0]:
        raise AssertionError("not a place and an empty list: " + repr(answer))
    return answer[0]


class PlayCall(unittest.TestCase):
    def test_answers_the_place_then_and_the_samples(self):
        calls = [note(at=1, length=2, step=1)]
        self.assertEqual(
            ask(*calls, play(3), play(1), play(0), play(2))[1:],
            [[3, 3, 0, -32768, -32767], [4, 1, 0], [4, 0], [6, 2, 0, 0]],
        )

    def test_begins_at_zero(self):
        self.assertEqual(last(play(0)), [0, 0])
        self.assertEqual(last(note(), play(1)), [1, 1, -32768])

    def test_samples_not_sums(self):
        self.assertEqual(ask(note(), note(), play(1), raw(0, 1))[2:], [[1, 1, -32768], [1, 1, -65536]])

    def test_parts_of_any_cut_are_as_rendered_at_once(self):
        whole = samples_of(SCORE, 0, 96)
        for sizes in ([96], [1] * 96, [0, 5, 0, 0, 91], [95, 1], [7] * 13 + [5], [2, 2, 1, 15, 5, 70, 1]):
            self.assertEqual(sum(sizes), 96)
            self.assertEqual(played(SCORE, sizes), whole)

    def test_more_than_one_part_can_hold(self):
        calls = [note(length=1000, step=77)]
        whole = [sample for first in range(0, 1024, 256) for sample in samples_of(calls, first, 256)]
        self.assertEqual(played(calls, [256] * 4), whole)
        self.assertEqual(played(calls, [100, 200, 3, 256, 256, 209]), whole)

    def test_asking_between_two_parts_moves_nothing(self):
        calls = SCORE + [play(10), render(50, 9), raw(3, 4), [7, 5], [8, 5], [9, 0, 1, 1], [10, 1, 7]]
        calls += [[13, 0, 200], [14], [15]]
        self.assertEqual(played(calls, [20]), samples_of(SCORE, 10, 20))

    def test_notes_put_moved_and_dropped_between_two_parts(self):
        first = [note(at=0, length=50, step=3000)]
        changes = ([note(at=8, length=20, step=500)], [move(1, 12)], [drop(2)])
        calls = list(first)
        for place, change in enumerate(changes):
            answer = last(*calls, play(10))
            self.assertEqual(answer[0], 10 * place + 10)
            heard = [call for call in calls if call[0] != 12]
            self.assertEqual(listed(answer), samples_of(heard, 10 * place, 10))
            calls += [play(10)] + change
        heard = [call for call in calls if call[0] != 12]
        self.assertEqual(last(*calls, play(10)), [40, 10] + samples_of(heard, 30, 10))

    def test_voice_and_line_changed_between_two_parts(self):
        calls = [note(length=9), play(1), voice(0, 1), play(1), line(0, 0, 128), play(1)]
        found = ask(*calls)
        self.assertEqual([found[1], found[3], found[5]], [[1, 1, -32768], [2, 1, 32767], [3, 1, 16383]])

    def test_n_at_its_greatest_and_above(self):
        self.assertEqual(last(note(), play(256)), [256, 256, -32768] + [0] * 255)
        self.assertEqual(last(note(), play(257)), [-1])
        self.assertEqual(last(note(), play(GREATEST_NUMBER)), [-1])

    def test_a_part_that_ends_at_the_last_time_and_one_behind(self):
        calls = [note(at=TIME_END - 1, length=5), seek(TIME_END - 3)]
        self.assertEqual(last(*calls, play(3)), [TIME_END, 3, 0, 0, -32768])
        self.assertEqual(last(*calls, play(4)), [-1])
        self.assertEqual(last(seek(TIME_END - 256), play(256))[:2], [TIME_END, 256])
        self.assertEqual(last(seek(TIME_END - 255), play(256)), [-1])

    def test_the_place_at_the_very_end(self):
        calls = [seek(TIME_END - 1), play(1)]
        self.assertEqual(last(*calls, play(0)), [TIME_END, 0])
        self.assertEqual(last(*calls, play(1)), [-1])
        self.assertEqual(ask(*calls, seek(5), play(1))[2:], [[0], [6, 1, 0]])

    def test_refused_play_changes_nothing(self):
        for refused, before in ((play(257), seek(7)), (play(2), seek(TIME_END - 1))):
            calls = SCORE + [before]
            self.assertEqual(last(*calls, refused), [-1])
            self.assertEqual(place_after(calls + [refused]), before[1])
            self.assertEqual(row_after(calls + [refused]), row_after(SCORE))

    def test_play_leaves_the_score(self):
        self.assertEqual(row_after(SCORE + [play(100), seek(3), play(0)]), row_after(SCORE))


class SeekCall(unittest.TestCase):
    def test_answers_zero_and_the_place_is_so(self):
        for t in (0, 1, 1000, TIME_END - 1):
            self.assertEqual(last(seek(t)), [0])
            self.assertEqual(place_after([seek(t)]), t)
            self.assertEqual(place_after([seek(3), play(9), seek(t)]), t)

    def test_play_goes_on_from_there(self):
        for first in (0, 3, 20, 60):
            calls = SCORE + [play(33), seek(first)]
            self.assertEqual(last(*calls, play(25)), [first + 25, 25] + samples_of(SCORE, first, 25))

    def test_back_and_again(self):
        found = ask(*SCORE, seek(5), play(40), seek(5), play(40))[len(SCORE):]
        self.assertEqual(found[1], found[3])

    def test_time_at_its_greatest_and_above(self):
        self.assertEqual(last(seek(TIME_END - 1)), [0])
        self.assertEqual(last(seek(TIME_END)), [-1])
        self.assertEqual(last(seek(GREATEST_NUMBER)), [-1])

    def test_refused_seek_leaves_the_place(self):
        self.assertEqual(place_after([seek(7), seek(TIME_END)]), 7)
        self.assertEqual(row_after(SCORE + [seek(TIME_END)]), row_after(SCORE))


class ThePlaceAndLoad(unittest.TestCase):
    def test_load_leaves_the_place(self):
        row = row_after(SCORE)
        for calls in ([seek(17)], [play(17)], [note(), play(20), seek(17)]):
            self.assertEqual(place_after(calls + [load(row)]), 17)
            self.assertEqual(last(*calls, load(row), play(30)), [47, 30] + samples_of(SCORE, 17, 30))

    def test_refused_load_leaves_the_place(self):
        self.assertEqual(place_after([seek(17), load([])]), 17)

    def test_the_place_is_not_in_the_row(self):
        self.assertEqual(ask(save(), seek(99), save(), play(9), save())[::2], [ask(save())[0]] * 3)

    def test_load_between_two_parts(self):
        row = row_after(SCORE)
        calls = [note(length=100, step=9), play(10), load(row), play(30), load(row), play(40)]
        found = ask(*calls)
        self.assertEqual(listed(found[1]), samples_of(calls[:1], 0, 10))
        self.assertEqual(listed(found[3]) + listed(found[5]), samples_of(SCORE, 10, 70))


if __name__ == "__main__":
    unittest.main()
