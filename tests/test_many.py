"""Many lines made by a seeded source, against the document's sentences written down a second time."""

import fractions
import math
import random
import unittest

from tests.lines import SILENT, ask, last, lay, row, sample, sample_row, trusted, would_row


class Model:
    """The sentences of the document, one behind another, over sets and dicts; slow and without any sharing."""

    def __init__(self):
        self.laid = False

    def answer(self, call):
        if call[0] == 0:
            return self.lay(*call[1:])
        if not self.laid:
            return [-2]
        if call[0] in (1, 2):
            return self.sample(call[2:], keep=call[0] == 1)
        if call[0] in (4, 6, 7, 8):
            return self.of_sensor(call[0], call[1]) if call[1] in range(self.n) else [-1]
        if call[0] == 9:
            return self.trim(call[1]) if call[1] in range(5) else [-1]
        if call[0] == 10:
            return self.log(call[1]) if call[1] in range(100001) else [-1]
        whats = [event[2] for event in self.events]
        free_trust = sorted(self.trust - self.barred)
        return {3: self.pair(self.last) + [self.age] + self.pair(self.out), 5: [len(free_trust)] + free_trust,
                11: [self.samples, len(whats), whats.count(0), whats.count(1)]}[call[0]]

    def of_sensor(self, number, i):
        if number == 4:
            return [int(i in self.trust), self.bad[i], self.good[i], int(i in self.barred)]
        if number == 7:
            if i not in self.barred:
                return [-4]
            self.barred -= {i}
            self.trust -= {i}
            self.bad[i] = self.good[i] = 0
            self.events.append((self.samples, i, 3))
            return [1]
        if i in self.barred:
            return [-3]
        if number == 8:
            return [self.p - self.bad[i] if i in self.trust else self.q - self.good[i]]
        self.barred |= {i}
        self.events.append((self.samples, i, 2))
        return [1]

    def trim(self, f):
        if len(self.votes) < 2 * f + 1:
            return [-5]
        left = list(self.votes)
        for k in range(f):
            left.remove(min(left))
            left.remove(max(left))
        return [0, math.floor(fractions.Fraction(sum(left), len(left)))]

    def log(self, k):
        told = [event for place, event in enumerate(self.events) if k <= place < k + 50]
        return [3 * len(told)] + [number for event in told for number in event]

    def lay(self, n, tol, p, q, rate):
        ranges = [(n, 3, 9), (tol, 0, 10 ** 9), (p, 1, 100), (q, 1, 100), (rate, 0, 10 ** 9)]
        if any(number < least or number > greatest for number, least, greatest in ranges):
            return [-1]
        self.laid, self.n, self.tol, self.p, self.q, self.rate = True, n, tol, p, q, rate
        self.trust = set(range(n))
        self.bad, self.good = dict.fromkeys(range(n), 0), dict.fromkeys(range(n), 0)
        self.last = self.out = None
        self.age = self.samples = 0
        self.barred, self.events, self.votes = set(), [], []
        return [0]

    @staticmethod
    def pair(number):
        return [0, 0] if number is None else [1, number]

    def sample(self, numbers, keep):
        pairs = list(zip(numbers[::2], numbers[1::2]))
        if len(numbers) != 2 * self.n:
            return [-1]
        if not all(pair == (0, 0) or (pair[0] == 1 and abs(pair[1]) <= 10 ** 12) for pair in pairs):
            return [-1]
        heard = {i: pair[1] for i, pair in enumerate(pairs) if pair[0]}
        unbarred = [i for i in range(self.n) if i not in self.barred]
        votes = [heard[i] for i in (self.trust - self.barred or unbarred) if i in heard]
        inner = sorted(votes)
        while len(inner) > 2:
            inner = inner[1:-1]
        voted = inner[0] if inner else None
        near = {i for i in heard if voted is not None and voted - self.tol <= heard[i] <= voted + self.tol}
        trust, bad, good, events = set(self.trust), dict(self.bad), dict(self.good), []
        for i in unbarred:
            if i in self.trust:
                bad[i] = 0 if i in near else bad[i] + 1
            else:
                good[i] = good[i] + 1 if i in near else 0
            if bad[i] >= self.p or good[i] >= self.q:
                trust ^= {i}
                bad[i] = good[i] = 0
                events.append((self.samples + 1, i, int(i in trust)))
        out = self.out
        if voted is not None:
            out = voted if out is None else min(max(voted, out - self.rate), out + self.rate)
        if keep:
            self.trust, self.bad, self.good, self.out = trust, bad, good, out
            self.last, self.age = (self.last, self.age + 1) if voted is None else (voted, 0)
            self.samples, self.votes = self.samples + 1, votes
            self.events += events
        return self.pair(voted) + self.pair(out) + [len(near - self.barred), len(trust - self.barred)]


def some_lay(source):
    numbers = [source.randint(3, 9), source.choice([0, 1, 2, 5]), source.randint(1, 4), source.randint(1, 4),
               source.choice([0, 1, 3, 10])]
    if source.random() < 0.1:
        numbers[source.randrange(5)] = source.choice([-10 ** 18, -1, 0, 2, 10, 101, 10 ** 9 + 1, 10 ** 18])
    return [0] + numbers


def some_readings(source, n):
    way = source.random()
    if way < 0.05:
        return row(*[SILENT] * n)
    centre = source.choice([0, 0, 3, -4, 20])
    readings = [centre + source.randint(-2, 2) for i in range(n)]
    for i in range(n):
        if source.random() < 0.25:
            readings[i] = source.choice([SILENT, centre + 9, centre - 9, 10 ** 12, -10 ** 12])
    numbers = row(*readings)
    if way > 0.95:
        numbers[source.randrange(len(numbers))] = source.choice([-1, 2, 10 ** 12 + 1, -10 ** 12 - 1])
    if way > 0.98:
        numbers = numbers[:source.randrange(len(numbers))]
    return numbers


def some_look(source, n):
    return source.choice([[3], [5], [11], [4, source.randint(-1, n)], [8, source.randint(-1, n)],
                          [9, source.choice([-1, 0, 0, 1, 1, 2, 3, 4, 5])],
                          [10, source.choice([-1, 0, 1, 5, 30, 60, 100, 100000, 100001])]])


def some_line(source, most, lays):
    calls = []
    n = 3
    for k in range(source.randint(1, most)):
        way = source.random()
        if (k == 0 and way < 0.9) or way < lays:
            calls.append(some_lay(source))
            n = calls[-1][1] if 3 <= calls[-1][1] <= 9 else n
        elif way < 0.45:
            calls.append(sample_row(some_readings(source, n)))
        elif way < 0.55:
            calls.append(would_row(some_readings(source, n)))
        elif way < 0.7:
            calls.append([source.choice([6, 7]), source.randint(-1, n)])
        else:
            calls.append(some_look(source, n))
    return calls


class ManyLines(unittest.TestCase):
    def check(self, seed, calls):
        model = Model()
        with self.subTest(seed=seed):
            self.assertEqual(ask(*calls), [model.answer(call) for call in calls])

    def test_as_the_sentences_say(self):
        for seed in range(600):
            self.check(seed, some_line(random.Random(seed), 80, 0.02))

    def test_four_hundred_calls_of_all_sorts(self):
        for seed in range(40):
            source = random.Random(1000 + seed)
            calls = some_line(source, 400, 0.002)
            while len(calls) < 400:
                calls += some_line(source, 400 - len(calls), 0.002)
            self.assertEqual(len(calls), 400)
            self.assertEqual({call[0] for call in calls}, set(range(12)))
            self.assertLessEqual(sum(len(call) for call in calls), 16000)
            self.check(seed, calls)


class FewerThanHalfBroken(unittest.TestCase):
    def test_the_voted_value_is_as_good_as_an_honest_one_and_no_honest_one_is_shut_out(self):
        for seed in range(200):
            source = random.Random(seed)
            n = source.randint(3, 9)
            broken = source.sample(range(n), source.randint(0, (n - 1) // 2))
            honest = [i for i in range(n) if i not in broken]
            start = [lay(n=n, tol=4, p=source.randint(1, 3), q=source.randint(1, 3), rate=3)]
            ends = []
            for k in range(40):
                readings = [10 * k + source.randint(-2, 2) for i in range(n)]
                ends.append((min(readings[i] for i in honest), max(readings[i] for i in honest)))
                for i in broken:
                    readings[i] = source.choice([SILENT, 10 * k, 10 * k + 5, 10 * k - 5, 10 ** 12, -10 ** 12])
                start += [sample(*readings)]
            with self.subTest(seed=seed):
                for (least, greatest), told in zip(ends, ask(*start)[1:]):
                    self.assertEqual(told[0], 1)
                    self.assertTrue(least <= told[1] <= greatest)
                self.assertLessEqual(set(honest), set(last(*start, trusted())[1:]))
                for i in honest:
                    self.assertEqual(last(*start, [4, i]), [1, 0, 0, 0])


if __name__ == "__main__":
    unittest.main()
