import unittest

from tests.helper import (
    GREATEST_NUMBER, TIME_END, ask, last, line, note, raw, render, samples_of, sums_of, voice,
)


def wave_at(wave, place):
    """What the wave has there: a note as loud as can be, one sample after its beginning."""
    return sums_of([voice(0, wave), note(length=2, step=place)], 1, 1)[0]


class Waves(unittest.TestCase):
    def check(self, wave, found):
        for place, value in found.items():
            with self.subTest(place=place):
                self.assertEqual(wave_at(wave, place), value)

    def test_saw(self):
        self.check(0, {0: -32768, 1: -32767, 32767: -1, 32768: 0, 32769: 1, 65535: 32767})

    def test_square(self):
        self.check(1, {0: 32767, 1: 32767, 32767: 32767, 32768: -32768, 65535: -32768})

    def test_triangle(self):
        self.check(2, {
            0: -32768, 1: -32766, 16384: 0, 32767: 32766, 32768: 32766, 32769: 32764,
            49151: 0, 65534: -32766, 65535: -32768,
        })

    def test_arcs(self):
        self.check(3, {
            0: 0, 1: 3, 2: 7, 8192: 24576, 16383: 32767, 16384: 32767, 16385: 32767,
            16293: 32766, 32766: 7, 32767: 3, 32768: 0, 32769: -3, 32770: -7, 40960: -24576,
            49151: -32767, 49152: -32768, 49153: -32767, 65535: -3,
        })

    def test_the_wave_goes_on_by_step_and_round(self):
        self.assertEqual(
            sums_of([note(length=5, step=20000)], 0, 6), [-32768, -12768, 7232, 27232, -18304, 0]
        )
        self.assertEqual(
            sums_of([note(length=4, step=65535)], 0, 4), [-32768, 32767, 32766, 32765]
        )
        self.assertEqual(sums_of([note(length=4, step=32768)], 0, 4), [-32768, 0, -32768, 0])

    def test_the_wave_begins_with_the_note(self):
        self.assertEqual(sums_of([note(at=7, length=2, step=5)], 6, 4), [0, -32768, -32763, 0])

    def test_the_wave_goes_on_while_the_note_fades(self):
        calls = [voice(0, fade=2), note(length=1, step=16384)]
        self.assertEqual(sums_of(calls, 0, 4), [-32768, -16384, 0, 0])

    def test_far_into_a_note(self):
        calls = [note(length=2 ** 24, step=65535)]
        self.assertEqual(sums_of(calls, 2 ** 24 - 1, 1), [-32767])


class Rounding(unittest.TestCase):
    def test_below_zero_is_rounded_down(self):
        self.assertEqual(sums_of([note(length=2, step=1, level=1)], 0, 2), [-128, -128])
        self.assertEqual(sums_of([note(length=2, step=32767, level=1)], 1, 1), [-1])

    def test_above_zero_is_rounded_down(self):
        self.assertEqual(sums_of([note(length=2, step=65535, level=1)], 1, 1), [127])
        self.assertEqual(sums_of([note(length=2, step=32769, level=255)], 1, 1), [0])

    def test_each_note_is_rounded_by_itself(self):
        calls = [voice(0, 1), note(level=1), note(level=1)]
        self.assertEqual(sums_of(calls, 0, 1), [254])
        tiny = note(length=2, step=32767, level=1)
        self.assertEqual(sums_of([tiny, tiny, tiny], 1, 1), [-3])

    def test_all_is_divided_once(self):
        calls = [voice(0, 1, stay=255), line(0, 0, 255), note(level=255)]
        self.assertEqual(sums_of(calls, 0, 1), [32767 * 255 * 255 * 255 // 2 ** 24])
        self.assertEqual(32767 * 255 * 255 * 255 // 2 ** 24, 32384)
        small = [voice(0, 1, stay=3), line(0, 0, 5), note(level=200)]
        self.assertEqual(sums_of(small, 0, 1), [5])

    def test_level_and_line_of_zero(self):
        self.assertEqual(sums_of([note(level=0)], 0, 1), [0])
        self.assertEqual(sums_of([line(0, 0, 0), note()], 0, 1), [0])
        self.assertEqual(sums_of([voice(0, stay=0), note()], 0, 1), [0])


class Cut(unittest.TestCase):
    HIGH = [voice(1, 1)]

    def test_above(self):
        calls = self.HIGH + [note(1), note(1)]
        self.assertEqual(sums_of(calls, 0, 1), [65534])
        self.assertEqual(samples_of(calls, 0, 1), [32767])

    def test_below(self):
        calls = [note(), note()]
        self.assertEqual(sums_of(calls, 0, 1), [-65536])
        self.assertEqual(samples_of(calls, 0, 1), [-32768])

    def test_just_at_and_just_beyond(self):
        one = [voice(2, 0), note(2, at=9, length=2, step=32769)]
        lowest = [note(at=10)]
        self.assertEqual(samples_of(lowest, 10, 1), [-32768])
        beyond = [note(at=10), voice(2, 0), note(2, at=9, length=2, step=32767)]
        self.assertEqual(sums_of(beyond, 10, 1), [-32769])
        self.assertEqual(samples_of(beyond, 10, 1), [-32768])
        top = self.HIGH + [note(1, at=10)]
        self.assertEqual(samples_of(top, 10, 1), [32767])
        over = self.HIGH + [note(1, at=10)] + one
        self.assertEqual(sums_of(over, 10, 1), [32768])
        self.assertEqual(samples_of(over, 10, 1), [32767])

    def test_cut_once_behind_the_sum(self):
        for calls in ([note(1), note(1), note()], [note(), note(1), note(1)], [note(1), note(), note(1)]):
            self.assertEqual(sums_of(self.HIGH + calls, 0, 1), [32766])
            self.assertEqual(samples_of(self.HIGH + calls, 0, 1), [32766])
        low = self.HIGH + [note(), note(), note(1)]
        self.assertEqual(samples_of(low, 0, 1), [-32768])
        self.assertEqual(sums_of(low, 0, 1), [-32769])
        self.assertEqual(samples_of(self.HIGH + [note(), note(), note(1), note(1)], 0, 1), [-2])

    def test_sixty_four_notes(self):
        calls = [note()] * 64
        self.assertEqual(sums_of(calls, 0, 2), [-32768 * 64, 0])
        self.assertEqual(samples_of(calls, 0, 2), [-32768, 0])


class Parts(unittest.TestCase):
    def test_answers_n_then_the_list(self):
        calls = [note(at=1)]
        self.assertEqual(last(*calls, render(0, 3)), [3, 3, 0, -32768, 0])
        self.assertEqual(last(*calls, raw(0, 3)), [3, 3, 0, -32768, 0])

    def test_no_notes(self):
        self.assertEqual(ask(render(5, 2), raw(5, 2)), [[2, 2, 0, 0], [2, 2, 0, 0]])

    def test_each_size(self):
        for call in (render, raw):
            self.assertEqual(last(note(), call(0, 0)), [0, 0])
            self.assertEqual(last(note(), call(0, 1)), [1, 1, -32768])
            self.assertEqual(last(note(), call(0, 256)), [256, 256, -32768] + [0] * 255)
            self.assertEqual(last(note(), call(0, 257)), [-1])
            self.assertEqual(last(note(), call(0, GREATEST_NUMBER)), [-1])

    def test_last_times(self):
        calls = [note(at=TIME_END - 1, length=5)]
        for call in (render, raw):
            self.assertEqual(
                last(*calls, call(TIME_END - 256, 256)), [256, 256] + [0] * 255 + [-32768]
            )
            self.assertEqual(last(*calls, call(TIME_END - 1, 1)), [1, 1, -32768])
            self.assertEqual(last(*calls, call(TIME_END - 1, 0)), [0, 0])
            self.assertEqual(last(*calls, call(TIME_END, 0)), [0, 0])

    def test_end_above(self):
        for call in (render, raw):
            self.assertEqual(last(call(TIME_END - 255, 256)), [-1])
            self.assertEqual(last(call(TIME_END - 1, 2)), [-1])
            self.assertEqual(last(call(TIME_END, 1)), [-1])
            self.assertEqual(last(call(TIME_END + 1, 0)), [-1])
            self.assertEqual(last(call(GREATEST_NUMBER, 0)), [-1])
            self.assertEqual(last(call(GREATEST_NUMBER, GREATEST_NUMBER)), [-1])

    def test_a_part_within_a_note(self):
        calls = [note(at=10, length=100, step=1)]
        self.assertEqual(sums_of(calls, 50, 3), [-32728, -32727, -32726])

    def test_parts_at_a_notes_edges(self):
        calls = [voice(0, fade=2), note(at=10, length=2)]
        self.assertEqual(sums_of(calls, 8, 2), [0, 0])
        self.assertEqual(sums_of(calls, 9, 2), [0, -32768])
        self.assertEqual(sums_of(calls, 13, 2), [-16384, 0])
        self.assertEqual(sums_of(calls, 14, 2), [0, 0])

    def test_asking_changes_nothing(self):
        calls = [note(length=5, step=99), render(0, 9), raw(2, 3), render(0, 9)]
        found = ask(*calls)
        self.assertEqual(found[1], found[3])


if __name__ == "__main__":
    unittest.main()
