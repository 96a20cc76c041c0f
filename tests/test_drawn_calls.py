"""Drawn calls, all sorts mixed, beside a second reading of the document's words."""

import random
import unittest

from scorebookdesk.player import answers
from tests.helper import GREATEST_NUMBER, TIME_END, flat, line, load, parted, written_row
from tests.test_promises import told_given, told_line, told_loud

NUMBERS_OF_VOICE = ((0, 3), (0, 65535), (0, 65535), (0, 256), (0, 65535))
NUMBERS_OF_NOTE = ((0, 7), (0, TIME_END - 1), (1, 2 ** 24), (0, 65535), (0, 256))


def within(numbers, bounds):
    return all(least <= number <= most for number, (least, most) in zip(numbers, bounds, strict=True))


def pairs(numbers):
    return [tuple(numbers[k:k + 2]) for k in range(0, len(numbers), 2)]


def good_points(numbers):
    if len(numbers) % 2 or len(numbers) > 32:
        return False
    times = [time for time, value in pairs(numbers)]
    values = [value for time, value in pairs(numbers)]
    return times == sorted(set(times)) and max(times + [0]) < TIME_END and max(values + [0]) <= 256


class Told:
    """A score and a place, done as the document says, call by call."""

    def __init__(self):
        self.score = ([[0, 0, 0, 256, 0] for v in range(8)], [[] for v in range(8)], 1, [])
        self.place = 0

    def answer(self, call):
        names = (
            "voice line note drop move render raw sounds following loud line_at seek play peak notes save load"
        ).split()
        return getattr(self, names[call[0]])(*call[1:])

    def end(self, one):
        return one[2] + one[3] + self.score[0][one[1]][4]

    def total(self, t):
        voices, lines, number, notes = self.score
        return sum(told_given(voices, lines, one[1:], t) for one in notes)

    def sample(self, t):
        return max(-32768, min(32767, self.total(t)))

    def voice(self, v, *numbers):
        if v > 7 or not within(numbers, NUMBERS_OF_VOICE):
            return [-1]
        self.score[0][v] = list(numbers)
        return [0]

    def line(self, v, count, *numbers):
        if v > 7 or not good_points(numbers):
            return [-1]
        self.score[1][v] = pairs(numbers)
        return [len(numbers) // 2]

    def note(self, *numbers):
        voices, lines, number, notes = self.score
        if not within(numbers, NUMBERS_OF_NOTE):
            return [-1]
        if len(notes) == 64 or number == 2 ** 32:
            return [-6]
        self.score = (voices, lines, number + 1, notes + [[number, *numbers]])
        return [number]

    def drop(self, number):
        voices, lines, following, notes = self.score
        left = [one for one in notes if one[0] != number]
        self.score = (voices, lines, following, left)
        return [-4] if len(left) == len(notes) else [0]

    def move(self, number, at):
        if at >= TIME_END:
            return [-1]
        for one in self.score[3]:
            if one[0] == number:
                one[2] = at
                return [0]
        return [-4]

    def part(self, first, n):
        return range(first, first + n) if n <= 256 and first + n <= TIME_END else None

    def render(self, first, n):
        part = self.part(first, n)
        return [-1] if part is None else [n, n] + [self.sample(t) for t in part]

    def raw(self, first, n):
        part = self.part(first, n)
        return [-1] if part is None else [n, n] + [self.total(t) for t in part]

    def sounds(self, t):
        found = [one[0] for one in self.score[3] if one[2] <= t < self.end(one)]
        return [-1] if t >= TIME_END else [len(found), len(found)] + found

    def following(self, t):
        times = sorted([one[2] for one in self.score[3]] + [self.end(one) for one in self.score[3]])
        return [-1] if t >= TIME_END else [time for time in times if time > t][:1] or [-5]

    def loud(self, v, length, k):
        if v > 7 or length > 2 ** 24 or k > 2 ** 25:
            return [-1]
        return [told_loud(self.score[0][v], length, k)]

    def line_at(self, v, t):
        return [-1] if v > 7 or t >= TIME_END else [told_line(self.score[1][v], t)]

    def seek(self, t):
        if t >= TIME_END:
            return [-1]
        self.place = t
        return [0]

    def play(self, n):
        answer = self.render(self.place, n)
        if answer == [-1]:
            return answer
        self.place += n
        return [self.place] + answer[1:]

    def peak(self, first, n):
        part = self.part(first, n)
        if part is None:
            return [-1]
        size, least = min([(-abs(self.sample(t)), t) for t in part] + [(0, first)])
        return [-size, 1, least]

    def notes(self):
        return [len(self.score[3])] + [number for one in self.score[3] for number in [6] + one]

    def save(self):
        row = written_row(*self.score)
        return [len(row), len(row)] + row

    def load(self, count, *row):
        try:
            self.score = read_row(list(row))
        except (IndexError, ValueError):
            return [-6]
        return [len(self.score[3])]


def read_row(row):
    """The score of a row; an IndexError or a ValueError if it is none's."""
    left = row[::-1]
    voices = [[left.pop() for k in range(5)] for v in range(8)]
    lines = [[left.pop() for k in range(2 * left.pop())] for v in range(8)]
    number = left.pop()
    notes = [[left.pop() for k in range(6)] for place in range(left.pop())]
    numbers = [one[0] for one in notes]
    good = (
        not left and len(notes) <= 64 and 1 <= number <= 2 ** 32
        and all(within(numbers, NUMBERS_OF_VOICE) for numbers in voices) and all(map(good_points, lines))
        and all(within(one[1:], NUMBERS_OF_NOTE) for one in notes)
        and len(set(numbers)) == len(numbers) and all(0 < own < number for own in numbers)
    )
    if not good:
        raise ValueError("no score's row")
    return voices, [pairs(numbers) for numbers in lines], number, notes


class Drawer:
    """Draws calls, most of them good, some at the edges, some wrong."""

    def __init__(self, seed):
        self.chance = random.Random(seed)
        # Some lists play about the last times.
        self.begin = self.chance.choice((0, 0, 0, TIME_END - 150))
        self.rows = []

    def number(self, least, most):
        sort = self.chance.randrange(40)
        if sort == 0:
            return self.chance.choice((most + 1, GREATEST_NUMBER, max(least, 1) - 1))
        if sort < 8:
            return self.chance.choice((least, most))
        return self.chance.randint(least, min(most, least + self.chance.choice((4, 60, 70000))))

    def time(self):
        if self.chance.randrange(30) == 0:
            return self.chance.choice((0, TIME_END - 1, TIME_END, GREATEST_NUMBER))
        return self.begin + self.chance.randrange(160)

    def size(self):
        return self.chance.choice((0, 1, 2, 7, 20, 20, 40, self.number(0, 256)))

    def known(self, told):
        numbers = [one[0] for one in told.score[3]] + [0, 1, 2, GREATEST_NUMBER]
        return self.chance.choice(numbers)

    def points(self):
        times = sorted(self.time() for k in range(self.chance.choice((0, 1, 2, 3, 5, 16, 17))))
        numbers = [number for time in times for number in (time, self.number(0, 256))]
        return numbers[:-1] if self.chance.randrange(20) == 0 else numbers

    def row(self, told):
        row = list(self.chance.choice(self.rows[-3:] + [written_row(*told.score)]))
        place = self.chance.randrange(len(row))
        sort = self.chance.randrange(10)
        if sort == 0:
            row[place] += 1
        elif sort == 1:
            row[place] = self.chance.choice((0, 1, 2 ** 32, row[place] + 2, GREATEST_NUMBER))
        elif sort == 2:
            row.insert(place, 0)
        elif sort == 3:
            row.pop(self.chance.choice((place, -1)))
        elif sort == 4:
            row.append(0)
        self.rows.append(written_row(*told.score))
        return row

    def call(self, told):
        sort = self.chance.choice((0, 1, 1, 2, 2, 2, 3, 4, 5, 6, 7, 8, 9, 10, 11, 12, 12, 13, 14, 15, 16))
        v = self.number(0, 7)
        if sort == 0:
            numbers = [v] + [self.number(*bounds) for bounds in NUMBERS_OF_VOICE]
        elif sort == 1:
            numbers = line(v, *self.points())[1:]
        elif sort == 2:
            numbers = [v, self.time()] + [self.number(*bounds) for bounds in NUMBERS_OF_NOTE[2:]]
        elif sort in (3, 4):
            numbers = [self.known(told), self.time()][:sort - 2]
        elif sort in (5, 6, 13):
            numbers = [self.time(), self.size()]
        elif sort == 9:
            numbers = [v, self.number(0, 2 ** 24), self.number(0, 2 ** 25)]
        elif sort == 12:
            numbers = [self.size()]
        elif sort == 16:
            numbers = load(self.row(told))[1:]
        else:
            numbers = {7: [self.time()], 8: [self.time()], 10: [v, self.time()], 11: [self.time()]}.get(sort, [])
        return [sort] + numbers


class DrawnCalls(unittest.TestCase):
    def test_as_told(self):
        done = set()
        for seed in range(120):
            drawer = Drawer(seed)
            told = Told()
            calls = []
            expected = []
            for k in range(70):
                call = drawer.call(told)
                if sum(map(len, calls)) + len(call) > 16000:
                    break
                calls.append(call)
                expected.append(told.answer(call))
                done.add((call[0], min(expected[-1][0], 0)))
            handed = flat(calls)
            found = parted(answers(handed))
            self.assertEqual(handed, flat(calls))
            for call, answer, one in zip(calls, found, expected, strict=True):
                self.assertEqual(answer, one, (seed, call))
        refusals = {0: (-1,), 1: (-1,), 2: (-1,), 3: (-4,), 4: (-1, -4), 5: (-1,), 6: (-1,), 7: (-1,), 8: (-1, -5)}
        refusals.update({9: (-1,), 10: (-1,), 11: (-1,), 12: (-1,), 13: (-1,), 14: (), 15: (), 16: (-6,)})
        wanted = {(sort, 0) for sort in range(17)}
        wanted |= {(sort, number) for sort, numbers in refusals.items() for number in numbers}
        self.assertEqual(wanted - done, set())


if __name__ == "__main__":
    unittest.main()
