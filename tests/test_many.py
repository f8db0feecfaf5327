"""Many lines made by a seeded source, against the document's sentences written down a second time."""

import random
import unittest

from tests.lines import SILENT, ask, last, lay, row, sample, sample_row, trusted, would_row


class Model:
    """The sentences of the document, one behind another, over sets and dicts; slow and without any sharing."""

    def __init__(self):
        self.laid = False

    def answer(self, call):
        if call[0] == 0:
            return self.lay(*call[1:])
        if not self.laid:
            return [-2]
        if call[0] in (1, 2):
            return self.sample(call[2:], keep=call[0] == 1)
        if call[0] == 3:
            return self.pair(self.last) + [self.age] + self.pair(self.out)
        if call[0] == 4:
            i = call[1]
            if i not in range(self.n):
                return [-1]
            return [int(i in self.trust), self.bad[i], self.good[i], 0]
        return [len(self.trust)] + sorted(self.trust)

    def lay(self, n, tol, p, q, rate):
        ranges = [(n, 3, 9), (tol, 0, 10 ** 9), (p, 1, 100), (q, 1, 100), (rate, 0, 10 ** 9)]
        if any(number < least or number > greatest for number, least, greatest in ranges):
            return [-1]
        self.laid, self.n, self.tol, self.p, self.q, self.rate = True, n, tol, p, q, rate
        self.trust = set(range(n))
        self.bad, self.good = dict.fromkeys(range(n), 0), dict.fromkeys(range(n), 0)
        self.last = self.out = None
        self.age = 0
        return [0]

    @staticmethod
    def pair(number):
        return [0, 0] if number is None else [1, number]

    def sample(self, numbers, keep):
        pairs = list(zip(numbers[::2], numbers[1::2]))
        if len(numbers) != 2 * self.n:
            return [-1]
        if not all(pair == (0, 0) or (pair[0] == 1 and abs(pair[1]) <= 10 ** 12) for pair in pairs):
            return [-1]
        heard = {i: pair[1] for i, pair in enumerate(pairs) if pair[0]}
        votes = sorted(heard[i] for i in (self.trust or range(self.n)) if i in heard)
        while len(votes) > 2:
            votes = votes[1:-1]
        voted = votes[0] if votes else None
        near = {i for i in heard if voted is not None and voted - self.tol <= heard[i] <= voted + self.tol}
        trust, bad, good = set(self.trust), dict(self.bad), dict(self.good)
        for i in range(self.n):
            if i in self.trust:
                bad[i] = 0 if i in near else bad[i] + 1
            else:
                good[i] = good[i] + 1 if i in near else 0
            if bad[i] >= self.p or good[i] >= self.q:
                trust ^= {i}
                bad[i] = good[i] = 0
        out = self.out
        if voted is not None:
            out = voted if out is None else min(max(voted, out - self.rate), out + self.rate)
        if keep:
            self.trust, self.bad, self.good, self.out = trust, bad, good, out
            self.last, self.age = (self.last, self.age + 1) if voted is None else (voted, 0)
        return self.pair(voted) + self.pair(out) + [len(near), len(trust)]


def some_lay(source):
    numbers = [source.randint(3, 9), source.choice([0, 1, 2, 5]), source.randint(1, 4), source.randint(1, 4),
               source.choice([0, 1, 3, 10])]
    if source.random() < 0.1:
        numbers[source.randrange(5)] = source.choice([-10 ** 18, -1, 0, 2, 10, 101, 10 ** 9 + 1, 10 ** 18])
    return [0] + numbers


def some_readings(source, n):
    way = source.random()
    if way < 0.05:
        return row(*[SILENT] * n)
    centre = source.choice([0, 0, 3, -4, 20])
    readings = [centre + source.randint(-2, 2) for i in range(n)]
    for i in range(n):
        if source.random() < 0.25:
            readings[i] = source.choice([SILENT, centre + 9, centre - 9, 10 ** 12, -10 ** 12])
    numbers = row(*readings)
    if way > 0.95:
        numbers[source.randrange(len(numbers))] = source.choice([-1, 2, 10 ** 12 + 1, -10 ** 12 - 1])
    if way > 0.98:
        numbers = numbers[:source.randrange(len(numbers))]
    return numbers


def some_line(source):
    calls = []
    n = 3
    for k in range(source.randint(1, 80)):
        way = source.random()
        if (k == 0 and way < 0.9) or way < 0.02:
            calls.append(some_lay(source))
            n = calls[-1][1] if 3 <= calls[-1][1] <= 9 else n
        elif way < 0.55:
            calls.append(sample_row(some_readings(source, n)))
        elif way < 0.7:
            calls.append(would_row(some_readings(source, n)))
        elif way < 0.8:
            calls.append([4, source.randint(-1, n)])
        else:
            calls.append([source.choice([3, 5])])
    return calls


class ManyLines(unittest.TestCase):
    def test_as_the_sentences_say(self):
        for seed in range(600):
            calls = some_line(random.Random(seed))
            model = Model()
            with self.subTest(seed=seed):
                self.assertEqual(ask(*calls), [model.answer(call) for call in calls])


class FewerThanHalfBroken(unittest.TestCase):
    def test_the_voted_value_is_as_good_as_an_honest_one_and_no_honest_one_is_shut_out(self):
        for seed in range(200):
            source = random.Random(seed)
            n = source.randint(3, 9)
            broken = source.sample(range(n), source.randint(0, (n - 1) // 2))
            honest = [i for i in range(n) if i not in broken]
            start = [lay(n=n, tol=4, p=source.randint(1, 3), q=source.randint(1, 3), rate=3)]
            ends = []
            for k in range(40):
                readings = [10 * k + source.randint(-2, 2) for i in range(n)]
                ends.append((min(readings[i] for i in honest), max(readings[i] for i in honest)))
                for i in broken:
                    readings[i] = source.choice([SILENT, 10 * k, 10 * k + 5, 10 * k - 5, 10 ** 12, -10 ** 12])
                start += [sample(*readings)]
            with self.subTest(seed=seed):
                for (least, greatest), told in zip(ends, ask(*start)[1:]):
                    self.assertEqual(told[0], 1)
                    self.assertTrue(least <= told[1] <= greatest)
                self.assertLessEqual(set(honest), set(last(*start, trusted())[1:]))
                for i in honest:
                    self.assertEqual(last(*start, [4, i]), [1, 0, 0, 0])


if __name__ == "__main__":
    unittest.main()
