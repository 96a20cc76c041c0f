import unittest

from scorebookdesk.voices import Voice, loudness
from tests.helper import (
    GREATEST_NUMBER, ask, full_strength, last, note, raw, sounding_in, sums_of, voice,
)


class VoiceCall(unittest.TestCase):
    def test_answers_zero(self):
        self.assertEqual(ask(voice(3, 1, 2, 3, 4, 5)), [[0]])

    def test_greatest_numbers_are_taken(self):
        self.assertEqual(last(voice(7, 3, 65535, 65535, 256, 65535)), [0])

    def test_least_numbers_are_taken(self):
        self.assertEqual(last(voice(0, 0, 0, 0, 0, 0)), [0])

    def test_each_number_at_its_greatest_and_above(self):
        greatest = {"v": 7, "wave": 3, "rise": 65535, "fall": 65535, "stay": 256, "fade": 65535}
        for name, number in greatest.items():
            with self.subTest(name=name):
                self.assertEqual(last(voice(**{name: number})), [0])
                self.assertEqual(last(voice(**{name: number + 1})), [-1])
                self.assertEqual(last(voice(**{name: GREATEST_NUMBER})), [-1])

    def test_refused_voice_stays_as_it_was(self):
        before = [voice(0, 1, 2, 3, 100, 4), note(length=8, step=4000)]
        for refused in (voice(0, 4, 0, 0, 0, 0), voice(0, 0, 65536, 0, 0, 0), voice(0, 0, 0, 0, 257, 0)):
            self.assertEqual(sums_of(before + [refused], 0, 20), sums_of(before, 0, 20))

    def test_at_first_each_voice_is_a_plain_saw(self):
        for v in range(8):
            with self.subTest(v=v):
                self.assertEqual(
                    sums_of([note(v, at=1, length=3, step=1000)], 0, 6),
                    [0, -32768, -31768, -30768, 0, 0],
                )
                self.assertEqual(sounding_in([note(v, at=1, length=3)], 4), [])

    def test_a_voice_is_its_own(self):
        calls = [voice(2, 1), note(1), note(2, at=1), note(3, at=2)]
        self.assertEqual(sums_of(calls, 0, 3), [-32768, 32767, -32768])

    def test_its_sound_has_every_number(self):
        calls = [voice(5, 1, rise=2, fall=2, stay=128, fade=2), note(5, length=6)]
        louds = [0, 128, 256, 192, 128, 128, 128, 64, 0]
        self.assertEqual(sums_of(calls, 0, 9), [32767 * loud // 256 for loud in louds])

    def test_changed_voice_holds_for_notes_that_are_there(self):
        calls = [note(length=2, step=1), voice(0, 1, stay=128, fade=2)]
        self.assertEqual(sums_of(calls, 0, 5), [16383, 16383, 16383, 8191, 0])
        self.assertEqual(sounding_in(calls, 3), [1])
        self.assertEqual(sounding_in(calls, 4), [])

    def test_what_was_heard_before_a_change_is_not_changed(self):
        found = ask(note(), raw(0, 1), voice(0, 1), raw(0, 1))
        self.assertEqual(found, [[1], [1, 1, -32768], [0], [1, 1, 32767]])


class Envelope(unittest.TestCase):
    def louds(self, length, n, **numbers):
        return full_strength([voice(0, 0, **numbers), note(length=length)], 0, n)

    def test_no_rise_no_fall_no_fade(self):
        self.assertEqual(self.louds(3, 5, stay=77), [77, 77, 77, 0, 0])

    def test_rise(self):
        self.assertEqual(self.louds(6, 7, rise=4), [0, 64, 128, 192, 256, 256, 0])

    def test_rise_is_rounded_down(self):
        self.assertEqual(self.louds(4, 5, rise=3), [0, 85, 170, 256, 0])

    def test_rise_goes_to_the_full_whatever_stays(self):
        self.assertEqual(self.louds(4, 4, rise=2, stay=10), [0, 128, 10, 10])

    def test_rise_of_one(self):
        self.assertEqual(self.louds(2, 2, rise=1), [0, 256])

    def test_fall(self):
        self.assertEqual(self.louds(6, 7, fall=4, stay=100), [256, 217, 178, 139, 100, 100, 0])

    def test_fall_takes_off_what_is_rounded_down(self):
        self.assertEqual(self.louds(4, 5, fall=3, stay=0), [256, 171, 86, 0, 0])

    def test_fall_to_the_full_is_none(self):
        self.assertEqual(self.louds(4, 4, fall=3), [256, 256, 256, 256])

    def test_rise_then_fall(self):
        self.assertEqual(
            self.louds(7, 8, rise=2, fall=4, stay=128), [0, 128, 256, 224, 192, 160, 128, 0]
        )

    def test_fade(self):
        self.assertEqual(self.louds(2, 7, fade=4), [256, 256, 256, 192, 128, 64, 0])

    def test_fade_is_rounded_down(self):
        self.assertEqual(self.louds(1, 5, fade=3), [256, 256, 170, 85, 0])

    def test_fade_from_what_stays(self):
        self.assertEqual(self.louds(1, 5, fade=2, stay=101), [101, 101, 50, 0, 0])

    def test_ends_while_it_rises(self):
        self.assertEqual(self.louds(4, 7, rise=8, fade=2), [0, 32, 64, 96, 128, 64, 0])
        self.assertEqual(self.louds(4, 5, rise=8), [0, 32, 64, 96, 0])

    def test_ends_where_the_rise_ends(self):
        self.assertEqual(self.louds(2, 5, rise=2, fade=2, stay=64), [0, 128, 64, 32, 0])
        self.assertEqual(self.louds(2, 5, rise=2, fall=4, fade=2, stay=64), [0, 128, 256, 128, 0])

    def test_ends_while_it_falls(self):
        self.assertEqual(
            self.louds(4, 7, rise=2, fall=4, stay=128, fade=2), [0, 128, 256, 224, 192, 96, 0]
        )

    def test_longest_rise_and_fade(self):
        calls = [voice(0, 0, rise=65535, fade=65535), note(length=65535)]
        self.assertEqual(full_strength(calls, 65533, 5), [255, 255, 256, 255, 255])
        self.assertEqual(full_strength(calls, 2 * 65535 - 257, 3), [1, 1, 0])

    def test_longest_fall(self):
        calls = [voice(0, 0, fall=65535, stay=0), note(length=65537)]
        self.assertEqual(full_strength(calls, 65534, 4), [1, 0, 0, 0])
        self.assertEqual(full_strength(calls, 255, 2), [256, 255])

    def test_at_its_end_and_behind_it(self):
        plain = Voice([0, 0, 0, 256, 0])
        self.assertEqual([loudness(plain, 3, k) for k in (2, 3, 4, 2 ** 25)], [256, 0, 0, 0])
        fading = Voice([0, 0, 0, 256, 2])
        self.assertEqual([loudness(fading, 3, k) for k in (2, 3, 4, 5, 6)], [256, 256, 128, 0, 0])


if __name__ == "__main__":
    unittest.main()
