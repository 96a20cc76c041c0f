"""S1 to S6, and the document's own words, on drawn scores."""

import random
import unittest
from fractions import Fraction
from math import floor

from tests.helper import (
    GREATEST_NUMBER, all_notes, ask, drop, following, last, line, line_at, listed, load, loud, move, note, notes_of,
    peak, play, raw, render, row_after, samples_of, save, seek, sounding_in, sounds, sums_of, voice, written_row,
)

SPAN = 256


def chance_voices(chance):
    return [
        [chance.randrange(4), chance.choice((0, 1, 7, 40)), chance.choice((0, 1, 5, 50)),
         chance.choice((0, 1, 100, 255, 256)), chance.choice((0, 1, 6, 45))]
        for v in range(8)
    ]


def chance_lines(chance):
    lines = []
    for v in range(8):
        times = sorted(chance.sample(range(SPAN), chance.choice((0, 1, 2, 5, 16))))
        lines.append([(time, chance.choice((0, 256, chance.randrange(257)))) for time in times])
    return lines


def chance_notes(chance, most):
    return [
        [chance.randrange(8), chance.randrange(SPAN), chance.choice((1, 2, 9, 60)),
         chance.choice((0, 1, 32768, 65535, chance.randrange(65536))),
         chance.choice((0, 1, 256, chance.randrange(257)))]
        for k in range(chance.randrange(1, most))
    ]


def chance_score(seed, most=12):
    chance = random.Random(seed)
    return chance_voices(chance), chance_lines(chance), chance_notes(chance, most)


def score_calls(voices, lines, notes, later=0):
    """The calls that put this score, all of it later by so many samples."""
    calls = [voice(v, *numbers) for v, numbers in enumerate(voices)]
    for v, points in enumerate(lines):
        calls.append(line(v, *[number for time, value in points for number in (time + later, value)]))
    return calls + [note(v, at + later, *numbers) for v, at, *numbers in notes]


def told_wave(wave, p):
    q = p % 32768
    x = floor(Fraction(4 * q * (32768 - q), 32768))
    low = p < 32768
    return (
        p - 32768,
        32767 if low else -32768,
        2 * p - 32768 if low else 98302 - 2 * p,
        min(x, 32767) if low else -x,
    )[wave]


def told_held(numbers, k):
    wave, rise, fall, stay, fade = numbers
    if k < rise:
        return floor(Fraction(256 * k, rise))
    if k - rise < fall:
        return 256 - floor(Fraction((256 - stay) * (k - rise), fall))
    return stay


def told_loud(numbers, length, k):
    fade = numbers[4]
    if k < length:
        return told_held(numbers, k)
    if k - length < fade:
        return floor(Fraction(told_held(numbers, length) * (fade - (k - length)), fade))
    return 0


def told_line(points, t):
    if not points:
        return 256
    for (t1, v1), (t2, v2) in zip(points, points[1:]):
        if t1 <= t < t2:
            return v1 + floor(Fraction((v2 - v1) * (t - t1), t2 - t1))
    return points[0][1] if t <= points[0][0] else points[-1][1]


def told_given(voices, lines, one, t):
    v, at, length, step, level = one
    if not at <= t < at + length + voices[v][4]:
        return 0
    k = t - at
    wave = told_wave(voices[v][0], k * step % 65536)
    return floor(Fraction(wave * told_loud(voices[v], length, k) * level * told_line(lines[v], t), 2 ** 24))


class TheWords(unittest.TestCase):
    def test_sums_and_samples(self):
        for seed in range(25):
            voices, lines, notes = chance_score(seed)
            calls = score_calls(voices, lines, notes)
            told = [sum(told_given(voices, lines, one, t) for one in notes) for t in range(SPAN)]
            with self.subTest(seed=seed):
                self.assertEqual(sums_of(calls, 0, SPAN), told)
                self.assertEqual(
                    samples_of(calls, 0, SPAN), [max(-32768, min(32767, total)) for total in told]
                )

    def test_sounds_and_next(self):
        for seed in range(25):
            voices, lines, notes = chance_score(seed)
            calls = score_calls(voices, lines, notes)
            ends = [at + length + voices[v][4] for v, at, length, step, level in notes]
            changes = sorted([one[1] for one in notes] + ends)
            found = ask(*calls, *[sounds(t) for t in range(SPAN)], *[following(t) for t in range(SPAN)])
            for t in range(SPAN):
                told = [k + 1 for k, one in enumerate(notes) if one[1] <= t < ends[k]]
                self.assertEqual(listed(found[len(calls) + t]), told)
                later = [time for time in changes if time > t]
                self.assertEqual(found[len(calls) + SPAN + t], later[:1] or [-5])


    def test_loud_and_line_at(self):
        for seed in range(10):
            voices, lines, notes = chance_score(seed)
            calls = score_calls(voices, lines, notes)
            for v in range(8):
                for length in (0, 1, 30, 120):
                    found = ask(*calls, *[loud(v, length, k) for k in range(180)])[len(calls):]
                    self.assertEqual(found, [[told_loud(voices[v], length, k)] for k in range(180)])
                found = ask(*calls, *[line_at(v, t) for t in range(SPAN + 5)])[len(calls):]
                self.assertEqual(found, [[told_line(lines[v], t)] for t in range(SPAN + 5)])

    def test_peak(self):
        for seed in range(25):
            calls = score_calls(*chance_score(seed))
            sizes = [abs(sample) for sample in samples_of(calls, 0, SPAN)]
            for first, n in ((0, SPAN), (0, 0), (40, 1), (30, 70), (200, 56), (256, 0), (7, 100)):
                greatest = max(sizes[first:first + n] + [0])
                time = first + sizes[first:first + n].index(greatest) if greatest else first
                self.assertEqual(last(*calls, peak(first, n)), [greatest, 1, time])

    def test_notes_and_save(self):
        for seed in range(25):
            voices, lines, notes = chance_score(seed)
            calls = score_calls(voices, lines, notes)
            told = [[k + 1] + one for k, one in enumerate(notes)]
            self.assertEqual(notes_of(calls), told)
            self.assertEqual(row_after(calls), written_row(voices, lines, len(notes) + 1, told))


class S1NothingOutsideItsTimeNeverMoreThanItsWave(unittest.TestCase):
    def test_each_note_by_itself(self):
        for seed in range(20):
            voices, lines, notes = chance_score(seed)
            for one in notes:
                calls = score_calls(voices, lines, [one])
                found = ask(*calls, raw(0, SPAN), *[sounds(t) for t in range(SPAN)])[len(calls):]
                full = sums_of([voice(0, voices[one[0]][0]), note(0, one[1], 200, one[3])], 0, SPAN)
                for t, total in enumerate(listed(found[0])):
                    if listed(found[1 + t]) == [] or t < one[1]:
                        self.assertEqual(total, 0)
                    elif t < one[1] + 200:
                        self.assertLessEqual(min(0, full[t]), total)
                        self.assertLessEqual(total, max(0, full[t]))


class S2TheSumIsAllNotes(unittest.TestCase):
    def test_whatever_the_order(self):
        for seed in range(15):
            voices, lines, notes = chance_score(seed)
            expected = ask(*score_calls(voices, lines, notes), raw(0, SPAN), render(0, SPAN))[-2:]
            random.Random(seed).shuffle(notes)
            self.assertEqual(
                ask(*score_calls(voices, lines, notes), raw(0, SPAN), render(0, SPAN))[-2:], expected
            )

    def test_the_sum_of_each_by_itself(self):
        for seed in range(15):
            voices, lines, notes = chance_score(seed)
            alone = [sums_of(score_calls(voices, lines, [one]), 0, SPAN) for one in notes]
            self.assertEqual(
                sums_of(score_calls(voices, lines, notes), 0, SPAN),
                [sum(column) for column in zip(*alone)],
            )

    def test_put_dropped_and_moved_is_as_put_at_once(self):
        for seed in range(15):
            voices, lines, notes = chance_score(seed)
            expected = sums_of(score_calls(voices, lines, notes), 0, SPAN)
            astray = [[v, 3, *numbers] for v, at, *numbers in notes]
            calls = score_calls(voices, lines, astray) + [note(), drop(len(notes) + 1)]
            calls += [move(k + 1, one[1]) for k, one in enumerate(notes)]
            self.assertEqual(sums_of(calls, 0, SPAN), expected)


class S3PartsOfAnyCut(unittest.TestCase):
    def test_cut_into_parts(self):
        for seed in range(15):
            calls = score_calls(*chance_score(seed))
            chance = random.Random(seed)
            for call in (render, raw):
                whole = listed(last(*calls, call(0, SPAN)))
                cuts = sorted([0, SPAN] + [chance.randrange(SPAN + 1) for k in range(chance.choice((1, 3, 40)))])
                asked = [call(begin, end - begin) for begin, end in zip(cuts, cuts[1:])]
                parts = ask(*calls, *asked)[len(calls):]
                self.assertEqual([sample for part in parts for sample in listed(part)], whole)

    def test_played_in_parts(self):
        for seed in range(30):
            calls = score_calls(*chance_score(seed))
            chance = random.Random(seed)
            first = chance.choice((0, chance.randrange(SPAN)))
            between = [chance.randrange(first, SPAN + 1) for k in range(chance.choice((0, 1, 3, 40)))]
            cuts = sorted([first, SPAN] + between)
            asked = [play(end - begin) for begin, end in zip(cuts, cuts[1:])]
            parts = ask(*calls, seek(first), *asked)[len(calls) + 1:]
            self.assertEqual([part[0] for part in parts], cuts[1:])
            heard = [sample for part in parts for sample in listed(part)]
            self.assertEqual(heard, samples_of(calls, first, SPAN - first))

    def test_played_while_notes_are_put_moved_and_dropped(self):
        for seed in range(20):
            chance = random.Random(seed)
            calls = score_calls(*chance_score(seed))
            parts = []
            place = 0
            while place < SPAN:
                n = min(chance.choice((0, 1, 9, 30)), SPAN - place)
                parts.append((place, n, len(calls)))
                calls.append(play(n))
                place += n
                v = chance.randrange(8)
                calls.append(chance.choice((
                    note(v, chance.randrange(SPAN), 40, 999, 200), move(chance.randrange(9), place),
                    drop(chance.randrange(9)), voice(v, 1, stay=200), line(v, place, 99),
                )))
            found = ask(*calls)
            for first, n, at in parts:
                self.assertEqual(listed(found[at]), samples_of(calls[:at], first, n))
                self.assertEqual(found[at][0], first + n)

    def test_sample_by_sample_and_backwards(self):
        calls = score_calls(*chance_score(77))
        whole = samples_of(calls, 0, SPAN)
        asked = [render(t, 1) for t in reversed(range(SPAN))]
        self.assertEqual([listed(part)[0] for part in ask(*calls, *asked)[len(calls):]], whole[::-1])


class S4AllLaterIsTheSameLater(unittest.TestCase):
    def test_later(self):
        for seed in range(15):
            score = chance_score(seed)
            calls = score_calls(*score)
            expected = ask(*calls, raw(0, SPAN), render(0, SPAN))[-2:]
            for later in (1, 1000, 2 ** 32 + 7, 2 ** 40 - SPAN):
                moved = score_calls(*score, later=later)
                self.assertEqual(ask(*moved, raw(later, SPAN), render(later, SPAN))[-2:], expected)

    def test_sounds_and_next_later(self):
        score = chance_score(5)
        for t in range(0, SPAN, 7):
            told = last(*score_calls(*score), following(t))
            self.assertEqual(
                last(*score_calls(*score, later=5000), following(t + 5000)),
                told if told == [-5] else [told[0] + 5000],
            )
            self.assertEqual(
                sounding_in(score_calls(*score, later=5000), t + 5000),
                sounding_in(score_calls(*score), t),
            )


    def test_played_and_peak_later(self):
        for seed in range(10):
            score = chance_score(seed)
            for later in (1, 2 ** 33, 2 ** 40 - SPAN):
                now = ask(*score_calls(*score), seek(0), play(SPAN), peak(3, 200))[-2:]
                then = ask(*score_calls(*score, later=later), seek(later), play(SPAN), peak(3 + later, 200))[-2:]
                self.assertEqual(then[0], [now[0][0] + later] + now[0][1:])
                self.assertEqual(then[1], now[1][:2] + [now[1][2] + later])


class S5BetweenOneTimeAndTheNextTold(unittest.TestCase):
    def test_the_same_notes_sound(self):
        for seed in range(15):
            calls = score_calls(*chance_score(seed))
            asked = [following(t) for t in range(SPAN)] + [sounds(t) for t in range(2 * SPAN)]
            found = ask(*calls, *asked)[len(calls):]
            heard = found[SPAN:]
            for t in range(SPAN):
                until = 2 * SPAN if found[t] == [-5] else found[t][0]
                self.assertGreater(until, t)
                for between in range(t, min(until, 2 * SPAN)):
                    self.assertEqual(heard[between], heard[t])


class S6SavedAndLoadedItIsTheSame(unittest.TestCase):
    ASKED = (
        [save(), all_notes(), render(0, SPAN), raw(0, SPAN), peak(0, SPAN)] + [sounds(t) for t in range(0, SPAN, 5)]
        + [following(t) for t in range(0, SPAN, 5)] + [loud(v, 20, k) for v in range(8) for k in (0, 9, 25)]
        + [line_at(v, t) for v in range(8) for t in (0, 50, 200)]
    )
    AFTER = [drop(2), move(1, 7), note(3, 9, 60, 500, 250), voice(3, 2, 1, 1, 9, 9), line(4, 8, 8)]

    def changed(self, seed):
        """A drawn score with gaps in its notes' numbers."""
        voices, lines, notes = chance_score(seed)
        return score_calls(voices, lines, notes) + [note(), drop(len(notes)), move(1, 3), note(5, 5, 5, 5, 5)]

    def test_saved_and_loaded(self):
        for seed in range(20):
            calls = self.changed(seed)
            row = row_after(calls)
            asked = self.ASKED + self.AFTER + self.ASKED
            expected = ask(*calls, *asked)[len(calls):]
            for before in ([], self.changed(seed + 1)):
                found = ask(*before, load(row), *asked)[len(before):]
                self.assertEqual(found[0], [len(notes_of(calls))])
                self.assertEqual(found[1:], expected)

    def test_refused_rows_change_nothing(self):
        for seed in range(20):
            calls = self.changed(seed)
            row = row_after(calls)
            expected = ask(*calls, seek(9), *self.ASKED, play(9))[len(calls) + 1:]
            chance = random.Random(seed)
            place = chance.randrange(len(row))
            far = row[:place] + [GREATEST_NUMBER] + row[place + 1:]
            for refused in (row[:place], row + [place], far, row[place + 1:]):
                found = ask(*calls, seek(9), load(refused), *self.ASKED, play(9))[len(calls) + 1:]
                self.assertEqual(found[0], [-6])
                self.assertEqual(found[1:], expected)


if __name__ == "__main__":
    unittest.main()
