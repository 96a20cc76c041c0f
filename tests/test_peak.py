import unittest

from tests.helper import (
    GREATEST_NUMBER, TIME_END, ask, last, line, note, peak, play, render, row_after, samples_of, seek, voice,
)


class PeakCall(unittest.TestCase):
    def test_answers_the_size_then_a_list_of_one(self):
        calls = [voice(0, 1), note(at=3), note(at=5, level=128)]
        self.assertEqual(last(*calls, peak(0, 9)), [32767, 1, 3])
        self.assertEqual(last(*calls, peak(4, 5)), [16383, 1, 5])

    def test_a_silent_part(self):
        self.assertEqual(last(peak(0, 9)), [0, 1, 0])
        self.assertEqual(last(peak(77, 256)), [0, 1, 77])
        self.assertEqual(last(note(at=3), peak(4, 9)), [0, 1, 4])
        self.assertEqual(last(note(at=3, length=9, level=0), peak(2, 9)), [0, 1, 2])

    def test_no_samples(self):
        self.assertEqual(last(note(length=9), peak(5, 0)), [0, 1, 5])
        self.assertEqual(last(note(), peak(0, 0)), [0, 1, 0])
        self.assertEqual(last(note(), peak(TIME_END, 0)), [0, 1, TIME_END])

    def test_two_places_equally_great(self):
        calls = [note(at=4, level=100), note(at=9, level=100), note(at=6, level=99)]
        self.assertEqual(last(*calls, peak(0, 20)), [12800, 1, 4])
        self.assertEqual(last(*calls, peak(5, 20)), [12800, 1, 9])

    def test_equally_great_above_and_below_zero(self):
        calls = [note(at=2, length=2, step=32769), note(at=4, length=2, step=32767)]
        lone = [line(0, 2, 0, 3, 256, 4, 0, 5, 256)]
        self.assertEqual(samples_of(lone + calls, 2, 4), [0, 1, 0, -1])
        self.assertEqual(last(*lone, *calls, peak(0, 9)), [1, 1, 3])
        turned = [note(at=2, length=2, step=32767), note(at=4, length=2, step=32769)]
        self.assertEqual(samples_of(lone + turned, 2, 4), [0, -1, 0, 1])
        self.assertEqual(last(*lone, *turned, peak(0, 9)), [1, 1, 3])

    def test_a_plateau_tells_its_first_time(self):
        self.assertEqual(last(note(at=10, length=20), peak(0, 50)), [32768, 1, 10])
        self.assertEqual(last(note(at=10, length=20), peak(15, 50)), [32768, 1, 15])

    def test_the_lowest_sample(self):
        self.assertEqual(last(note(at=2), peak(0, 5)), [32768, 1, 2])
        calls = [voice(1, 1), note(1, at=1), note(at=2)]
        self.assertEqual(last(*calls, peak(0, 5)), [32768, 1, 2])

    def test_of_samples_not_of_sums(self):
        calls = [voice(1, 1), note(1, at=3), note(1, at=4), note(1, at=4)]
        self.assertEqual(last(*calls, peak(0, 9)), [32767, 1, 3])
        self.assertEqual(last(note(at=1), note(at=2), note(at=2), peak(0, 9)), [32768, 1, 1])

    def test_the_edges_of_the_part(self):
        calls = [note(at=5, level=10), note(at=6, level=2), note(at=8, level=3), note(at=9, level=200)]
        self.assertEqual(last(*calls, peak(6, 3)), [384, 1, 8])
        self.assertEqual(last(*calls, peak(5, 4)), [1280, 1, 5])
        self.assertEqual(last(*calls, peak(6, 4)), [25600, 1, 9])
        self.assertEqual(last(*calls, peak(6, 1)), [256, 1, 6])

    def test_n_at_its_greatest_and_above(self):
        calls = [note(at=255)]
        self.assertEqual(last(*calls, peak(0, 255)), [0, 1, 0])
        self.assertEqual(last(*calls, peak(0, 256)), [32768, 1, 255])
        self.assertEqual(last(*calls, peak(0, 257)), [-1])
        self.assertEqual(last(*calls, peak(0, GREATEST_NUMBER)), [-1])

    def test_a_part_that_ends_at_the_last_time_and_one_behind(self):
        calls = [note(at=TIME_END - 1)]
        self.assertEqual(last(*calls, peak(TIME_END - 256, 256)), [32768, 1, TIME_END - 1])
        self.assertEqual(last(*calls, peak(TIME_END - 255, 256)), [-1])
        self.assertEqual(last(*calls, peak(TIME_END - 1, 1)), [32768, 1, TIME_END - 1])
        self.assertEqual(last(*calls, peak(TIME_END - 1, 2)), [-1])
        self.assertEqual(last(*calls, peak(TIME_END, 1)), [-1])
        self.assertEqual(last(*calls, peak(TIME_END + 1, 0)), [-1])
        self.assertEqual(last(*calls, peak(GREATEST_NUMBER, GREATEST_NUMBER)), [-1])

    def test_nothing_is_changed(self):
        calls = [note(length=50, step=99), seek(4)]
        asked = [peak(0, 256), peak(0, 257)]
        self.assertEqual(row_after(calls + asked), row_after(calls))
        self.assertEqual(ask(*calls, *asked, play(5), render(0, 9))[4:], ask(*calls, play(5), render(0, 9))[2:])


if __name__ == "__main__":
    unittest.main()
