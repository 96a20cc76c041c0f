import unittest

from tests.helper import (
    GREATEST_NUMBER, TIME_END, ask, drop, following, last, move, note, sounding_in, sounds, voice,
)

FADED = [voice(0, fade=2), note(at=5, length=3)]
SEVERAL = [voice(1, fade=10), note(0, 20, 10), note(1, 0, 10), note(0, 5, 20), note(0, 20, 1)]


class SoundsCall(unittest.TestCase):
    def test_answers_how_many_then_the_numbers(self):
        self.assertEqual(last(sounds(0)), [0, 0])
        self.assertEqual(last(note(), note(), sounds(0)), [2, 2, 1, 2])

    def test_round_a_note(self):
        found = [sounding_in(FADED, t) for t in (0, 4, 5, 7, 8, 9, 10, 11)]
        self.assertEqual(found, [[], [], [1], [1], [1], [1], [], []])

    def test_without_fade(self):
        found = [sounding_in([note(at=5, length=3)], t) for t in (4, 5, 7, 8)]
        self.assertEqual(found, [[], [1], [1], []])

    def test_several_in_order(self):
        self.assertEqual(sounding_in(SEVERAL, 0), [2])
        self.assertEqual(sounding_in(SEVERAL, 5), [2, 3])
        self.assertEqual(sounding_in(SEVERAL, 19), [2, 3])
        self.assertEqual(sounding_in(SEVERAL, 20), [1, 3, 4])
        self.assertEqual(sounding_in(SEVERAL, 21), [1, 3])
        self.assertEqual(sounding_in(SEVERAL, 25), [1])
        self.assertEqual(sounding_in(SEVERAL, 30), [])

    def test_a_note_that_is_not_loud_sounds(self):
        self.assertEqual(sounding_in([note(level=0)], 0), [1])
        self.assertEqual(sounding_in([voice(0, stay=0, fade=3), note()], 3), [1])

    def test_the_fade_is_that_of_its_own_voice_as_it_is_now(self):
        calls = FADED + [note(1, at=5, length=3), voice(1, fade=4)]
        self.assertEqual([sounding_in(calls, t) for t in (9, 10, 11, 12)], [[1, 2], [2], [2], []])
        self.assertEqual(sounding_in(calls + [voice(1)], 8), [1])

    def test_time_at_its_greatest_and_above(self):
        calls = [note(at=TIME_END - 1)]
        self.assertEqual(last(*calls, sounds(TIME_END - 1)), [1, 1, 1])
        self.assertEqual(last(*calls, sounds(TIME_END)), [-1])
        self.assertEqual(last(*calls, sounds(GREATEST_NUMBER)), [-1])


class NextCall(unittest.TestCase):
    def walked(self, calls):
        """Every time that next tells, from 0 on."""
        found = []
        answer = last(*calls, following(0))
        while answer != [-5]:
            self.assertEqual(len(answer), 1)
            found.append(answer[0])
            answer = last(*calls, following(answer[0]))
        return found

    def test_round_a_note(self):
        found = [last(*FADED, following(t)) for t in (0, 4, 5, 8, 9, 10, 11)]
        self.assertEqual(found, [[5], [5], [10], [10], [10], [-5], [-5]])

    def test_none(self):
        self.assertEqual(last(following(0)), [-5])
        self.assertEqual(last(note(), drop(1), following(0)), [-5])

    def test_above_the_time_not_at_it(self):
        self.assertEqual(last(note(at=0, length=7), following(0)), [7])

    def test_several(self):
        self.assertEqual(self.walked(SEVERAL), [5, 20, 21, 25, 30])

    def test_drop_and_move(self):
        self.assertEqual(self.walked(SEVERAL + [drop(3), move(4, 2)]), [2, 3, 20, 30])

    def test_the_fade_is_that_of_its_own_voice_as_it_is_now(self):
        self.assertEqual(self.walked(SEVERAL + [voice(1), voice(0, fade=1)]), [5, 10, 20, 22, 26, 31])

    def test_time_at_its_greatest_and_above(self):
        self.assertEqual(last(following(TIME_END - 1)), [-5])
        self.assertEqual(last(note(at=TIME_END - 1), following(TIME_END - 2)), [TIME_END - 1])
        self.assertEqual(last(note(), following(TIME_END)), [-1])
        self.assertEqual(last(following(TIME_END)), [-1])
        self.assertEqual(last(following(GREATEST_NUMBER)), [-1])

    def test_a_note_may_end_behind_the_last_time(self):
        calls = [note(at=TIME_END - 1, length=10)]
        self.assertEqual(last(*calls, following(TIME_END - 1)), [TIME_END + 9])

    def test_asking_changes_nothing(self):
        found = ask(*SEVERAL, following(3), sounds(20), following(3), sounds(20))
        self.assertEqual(found[-4:-2], found[-2:])


if __name__ == "__main__":
    unittest.main()
