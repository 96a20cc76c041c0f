import unittest

from tests.helper import GREATEST_NUMBER, TIME_END, ask, full_strength, last, line, note, voice

LONG_NOTE = note(length=2 ** 24)


def values(points, first, n):
    return full_strength([line(0, *points), LONG_NOTE], first, n)


def sixteen_points():
    return [number for k in range(16) for number in (10 * k, 16 * k)]


class LineCall(unittest.TestCase):
    def test_answers_how_many_points(self):
        self.assertEqual(last(line(0)), [0])
        self.assertEqual(last(line(0, 5, 100)), [1])
        self.assertEqual(last(line(7, 5, 100, 6, 0)), [2])
        self.assertEqual(last(line(0, *sixteen_points())), [16])

    def test_more_than_sixteen_points(self):
        self.assertEqual(last(line(0, *sixteen_points(), 160, 1)), [-1])
        self.assertEqual(last(line(0, *[k // 2 for k in range(15997)])), [-1])
        self.assertEqual(last(line(0, *[k // 2 for k in range(15996)])), [-1])

    def test_odd_number_of_numbers(self):
        self.assertEqual(last(line(0, 5)), [-1])
        self.assertEqual(last(line(0, 5, 100, 6)), [-1])
        self.assertEqual(last(line(0, *sixteen_points()[:-1])), [-1])
        self.assertEqual(last(line(0, *sixteen_points(), 160)), [-1])

    def test_voice_above_seven(self):
        self.assertEqual(last(line(7)), [0])
        self.assertEqual(last(line(8)), [-1])
        self.assertEqual(last(line(GREATEST_NUMBER, 1, 1)), [-1])

    def test_times_that_do_not_rise(self):
        self.assertEqual(last(line(0, 5, 1, 5, 2)), [-1])
        self.assertEqual(last(line(0, 5, 1, 4, 2)), [-1])
        self.assertEqual(last(line(0, 5, 1, 6, 2, 6, 2)), [-1])
        self.assertEqual(last(line(0, 0, 1, 0, 2)), [-1])
        self.assertEqual(last(line(0, 0, 1, 1, 2)), [2])

    def test_value_at_its_greatest_and_above(self):
        self.assertEqual(last(line(0, 5, 256)), [1])
        self.assertEqual(last(line(0, 5, 257)), [-1])
        self.assertEqual(last(line(0, 5, 0, 6, 257)), [-1])
        self.assertEqual(last(line(0, 5, GREATEST_NUMBER)), [-1])

    def test_time_at_its_greatest_and_above(self):
        self.assertEqual(last(line(0, TIME_END - 1, 1)), [1])
        self.assertEqual(last(line(0, TIME_END, 1)), [-1])
        self.assertEqual(last(line(0, 3, 1, TIME_END, 1)), [-1])
        self.assertEqual(last(line(0, GREATEST_NUMBER, 1)), [-1])

    def test_refused_line_stays_as_it_was(self):
        points = (2, 128, 4, 64)
        for refused in (line(0, 1), line(0, 1, 257), line(0, 3, 1, 2, 1), line(0, TIME_END, 1), line(8)):
            calls = [line(0, *points), refused, LONG_NOTE]
            self.assertEqual(full_strength(calls, 0, 6), values(points, 0, 6))

    def test_a_new_line_takes_the_place_of_the_old(self):
        calls = [line(0, 0, 10, 5, 20), line(0, 3, 40), LONG_NOTE]
        self.assertEqual(full_strength(calls, 0, 6), [40] * 6)
        self.assertEqual(full_strength(calls + [line(0)], 0, 6), [256] * 6)

    def test_a_line_is_its_own_voices(self):
        calls = [line(1, 0, 10), line(3, 0, 30)]
        for v, value in enumerate((256, 10, 256, 30, 256, 256, 256, 256)):
            self.assertEqual(full_strength(calls + [note(v)], 0, 1), [value])

    def test_a_line_stays_when_its_voice_is_changed(self):
        calls = [line(0, 0, 10), voice(0, stay=128), note()]
        self.assertEqual(full_strength(calls, 0, 1), [5])


class LineValue(unittest.TestCase):
    def test_without_points(self):
        self.assertEqual(values((), 0, 3), [256, 256, 256])

    def test_one_point(self):
        self.assertEqual(values((2, 99), 0, 5), [99] * 5)

    def test_before_at_between_and_behind_two_points(self):
        self.assertEqual(
            values((10, 100, 20, 200), 8, 15),
            [100, 100, 100, 110, 120, 130, 140, 150, 160, 170, 180, 190, 200, 200, 200],
        )

    def test_rising_is_rounded_down(self):
        self.assertEqual(values((0, 0, 3, 100), 0, 5), [0, 33, 66, 100, 100])

    def test_falling_is_rounded_down(self):
        self.assertEqual(values((0, 100, 3, 0), 0, 5), [100, 66, 33, 0, 0])
        self.assertEqual(values((1, 2, 5, 1), 0, 7), [2, 2, 1, 1, 1, 1, 1])

    def test_each_stretch_of_several(self):
        self.assertEqual(
            values((1, 10, 3, 20, 4, 256, 8, 0), 0, 10), [10, 10, 15, 20, 256, 192, 128, 64, 0, 0]
        )

    def test_sixteen_points(self):
        points = sixteen_points()
        self.assertEqual(values(points, 0, 11), [0, 1, 3, 4, 6, 8, 9, 11, 12, 14, 16])
        self.assertEqual(values(points, 145, 7), [232, 233, 235, 236, 238, 240, 240])

    def test_far_points(self):
        calls = [line(0, 0, 0, TIME_END - 1, 256), note(at=TIME_END - 2, length=2)]
        self.assertEqual(full_strength(calls, TIME_END - 2, 2), [255, 256])
        middle = [line(0, 0, 0, TIME_END - 1, 256), note(at=2 ** 39 - 1, length=2)]
        self.assertEqual(full_strength(middle, 2 ** 39 - 1, 2), [127, 128])

    def test_the_value_is_of_the_time_not_of_the_note(self):
        calls = [line(0, 0, 0, 10, 100), note(at=0), note(at=3), note(at=7)]
        self.assertEqual(full_strength(calls, 0, 8), [0, 0, 0, 30, 0, 0, 0, 70])

    def test_the_line_goes_on_while_a_note_fades(self):
        calls = [voice(0, fade=4), line(0, 0, 256, 4, 0), note(length=1)]
        self.assertEqual(
            ask(*calls, [6, 0, 6])[-1][2:], [-32768, -128 * 192, -96 * 128, -64 * 64, 0, 0]
        )


if __name__ == "__main__":
    unittest.main()
