import unittest

from tests.helper import (
    GREATEST_NUMBER, TIME_END, ask, last, line, line_at, loud, note, save, voice,
)

SHAPED = voice(3, 2, rise=4, fall=5, stay=100, fade=8)


class LoudCall(unittest.TestCase):
    def loud_in(self, calls, v, length, ks):
        found = ask(*calls, *[loud(v, length, k) for k in ks])[len(calls):]
        for answer in found:
            self.assertEqual(len(answer), 1)
        return [answer[0] for answer in found]

    def test_at_first(self):
        for v in range(8):
            self.assertEqual(self.loud_in([], v, 3, range(5)), [256, 256, 256, 0, 0])

    def test_rise_fall_stay_and_fade(self):
        self.assertEqual(
            self.loud_in([SHAPED], 3, 12, range(22)),
            [0, 64, 128, 192, 256, 225, 194, 163, 132, 100, 100, 100]
            + [100, 87, 75, 62, 50, 37, 25, 12, 0, 0],
        )

    def test_the_fade_begins_at_what_is_held_after_len(self):
        self.assertEqual(self.loud_in([SHAPED], 3, 2, range(11)), [0, 64, 128, 112, 96, 80, 64, 48, 32, 16, 0])
        self.assertEqual(self.loud_in([SHAPED], 3, 6, (6, 7, 13, 14)), [194, 169, 24, 0])

    def test_a_fall_that_is_not_whole_is_rounded_down_first(self):
        calls = [voice(0, fall=3, stay=0)]
        self.assertEqual(self.loud_in(calls, 0, 9, range(5)), [256, 171, 86, 0, 0])

    def test_a_rise_that_is_not_whole(self):
        self.assertEqual(self.loud_in([voice(0, rise=3)], 0, 9, range(5)), [0, 85, 170, 256, 256])

    def test_a_note_of_no_samples(self):
        self.assertEqual(self.loud_in([], 0, 0, (0, 1)), [0, 0])
        self.assertEqual(self.loud_in([voice(0, fade=4)], 0, 0, range(6)), [256, 192, 128, 64, 0, 0])
        self.assertEqual(self.loud_in([voice(0, rise=1, fade=4)], 0, 0, range(3)), [0, 0, 0])
        self.assertEqual(self.loud_in([voice(0, stay=7, fade=2)], 0, 0, range(3)), [7, 3, 0])

    def test_voice_above_seven(self):
        self.assertEqual(last(loud(7, 1, 0)), [256])
        self.assertEqual(last(loud(8, 1, 0)), [-1])
        self.assertEqual(last(loud(GREATEST_NUMBER, 1, 0)), [-1])

    def test_len_at_its_greatest_and_above(self):
        self.assertEqual(last(loud(0, 2 ** 24, 2 ** 24 - 1)), [256])
        self.assertEqual(last(loud(0, 2 ** 24, 2 ** 24)), [0])
        self.assertEqual(last(voice(0, fade=65535), loud(0, 2 ** 24, 2 ** 24 + 65534)), [0])
        self.assertEqual(last(voice(0, fade=65535), loud(0, 2 ** 24, 2 ** 24 + 65535 - 512)), [2])
        self.assertEqual(last(loud(0, 2 ** 24 + 1, 0)), [-1])
        self.assertEqual(last(loud(0, GREATEST_NUMBER, 0)), [-1])

    def test_k_at_its_greatest_and_above(self):
        self.assertEqual(last(loud(0, 1, 2 ** 25)), [0])
        self.assertEqual(last(loud(0, 2 ** 24, 2 ** 25)), [0])
        self.assertEqual(last(loud(0, 1, 2 ** 25 + 1)), [-1])
        self.assertEqual(last(loud(0, 1, GREATEST_NUMBER)), [-1])

    def test_the_voice_is_that_of_its_number_as_it_is_now(self):
        found = ask(loud(2, 1, 0), voice(2, stay=9), loud(2, 1, 0), loud(1, 1, 0), voice(2), loud(2, 1, 0))
        self.assertEqual(found, [[256], [0], [9], [256], [0], [256]])

    def test_neither_line_nor_notes_are_in_it(self):
        calls = [line(0, 0, 0), note(level=1)]
        self.assertEqual(last(*calls, loud(0, 1, 0)), [256])

    def test_nothing_is_changed(self):
        found = ask(SHAPED, note(), save(), loud(3, 5, 5), loud(8, 5, 5), save())
        self.assertEqual(found[2], found[5])


class LineAtCall(unittest.TestCase):
    def values_in(self, points, times):
        calls = [line(5, *points)]
        found = ask(*calls, *[line_at(5, t) for t in times])[len(calls):]
        for answer in found:
            self.assertEqual(len(answer), 1)
        return [answer[0] for answer in found]

    def test_without_points(self):
        for v in range(8):
            self.assertEqual(ask(line_at(v, 0), line_at(v, TIME_END - 1)), [[256], [256]])
        self.assertEqual(self.values_in((), (0, 7)), [256, 256])

    def test_before_the_first_point_and_at_it(self):
        self.assertEqual(self.values_in((10, 100, 20, 200), (0, 9, 10)), [100, 100, 100])

    def test_at_a_point(self):
        self.assertEqual(self.values_in((1, 0, 5, 256, 9, 3), (1, 5, 9)), [0, 256, 3])

    def test_between_two_points_rising(self):
        self.assertEqual(self.values_in((0, 0, 3, 100), range(4)), [0, 33, 66, 100])

    def test_between_two_points_falling_is_rounded_down(self):
        self.assertEqual(self.values_in((0, 100, 3, 0), range(4)), [100, 66, 33, 0])
        self.assertEqual(self.values_in((1, 2, 5, 1), range(7)), [2, 2, 1, 1, 1, 1, 1])
        self.assertEqual(self.values_in((0, 256, 7, 255), range(8)), [256] + [255] * 7)

    def test_from_the_last_point_on(self):
        self.assertEqual(self.values_in((0, 1, 3, 7), (3, 4, 1000, TIME_END - 1)), [7, 7, 7, 7])

    def test_sixteen_points(self):
        points = [number for k in range(16) for number in (10 * k, 256 - 16 * k)]
        self.assertEqual(self.values_in(points, (0, 1, 10, 145, 149, 150, 151)), [256, 254, 240, 24, 17, 16, 16])

    def test_the_last_times(self):
        points = (0, 0, TIME_END - 1, 256)
        self.assertEqual(self.values_in(points, (TIME_END - 2, TIME_END - 1)), [255, 256])

    def test_voice_above_seven(self):
        self.assertEqual(last(line_at(7, 0)), [256])
        self.assertEqual(last(line_at(8, 0)), [-1])
        self.assertEqual(last(line_at(GREATEST_NUMBER, 0)), [-1])

    def test_time_at_its_greatest_and_above(self):
        self.assertEqual(last(line_at(0, TIME_END - 1)), [256])
        self.assertEqual(last(line_at(0, TIME_END)), [-1])
        self.assertEqual(last(line_at(0, GREATEST_NUMBER)), [-1])

    def test_each_voices_own_line(self):
        calls = [line(1, 0, 10), line(3, 0, 30)]
        found = ask(*calls, *[line_at(v, 5) for v in range(8)])[2:]
        self.assertEqual(found, [[256], [10], [256], [30], [256], [256], [256], [256]])

    def test_nothing_is_changed(self):
        found = ask(line(1, 4, 5), note(), save(), line_at(1, 2), line_at(8, 2), line_at(1, TIME_END), save())
        self.assertEqual(found[2], found[6])


if __name__ == "__main__":
    unittest.main()
