"""Promise 1: lay."""

import unittest

from tests.lines import ask, bar, free, last, lay, look, look_at_all, sample, sensor, trusted, value

RANGES = {"n": (3, 9), "tol": (0, 10 ** 9), "p": (1, 100), "q": (1, 100), "rate": (0, 10 ** 9)}
FAR = 10 ** 18


class LayRanges(unittest.TestCase):
    def test_least_and_greatest_are_taken(self):
        for name, bounds in RANGES.items():
            for number in bounds:
                with self.subTest(name=name, number=number):
                    self.assertEqual(ask(lay(**{name: number})), [[0]])

    def test_all_least_and_all_greatest(self):
        self.assertEqual(ask([0, 3, 0, 1, 1, 0]), [[0]])
        self.assertEqual(ask([0, 9, 10 ** 9, 100, 100, 10 ** 9]), [[0]])

    def test_beyond_a_range_is_refused_and_nothing_is_laid(self):
        for name, (least, greatest) in RANGES.items():
            for number in (least - 1, greatest + 1, -FAR, FAR):
                with self.subTest(name=name, number=number):
                    self.assertEqual(ask(lay(**{name: number}), trusted(), value()), [[-1], [-2], [-2]])

    def test_beyond_a_range_changes_nothing_of_what_was_laid(self):
        start = [lay(n=3, tol=2, p=2, q=2, rate=1), sample(0, 0, 50), sample(4, 4, 50), sample(4, 4, 4)]
        later = look_at_all(3) + [sample(9, 9, 9), sample(9, 9, 9)] + look_at_all(3)
        untouched = ask(*start, *later)
        for name, (least, greatest) in RANGES.items():
            for number in (least - 1, greatest + 1):
                with self.subTest(name=name, number=number):
                    refused = ask(*start, lay(**{name: number}), *later)
                    self.assertEqual(refused[len(start)], [-1])
                    self.assertEqual(refused[:len(start)] + refused[len(start) + 1:], untouched)


class LayState(unittest.TestCase):
    def test_all_are_trusted_none_barred_and_counts_are_0(self):
        for n in range(3, 10):
            with self.subTest(n=n):
                told = ask(lay(n=n), *look(n))
                self.assertEqual(told[1], [0, 0, 0, 0, 0])
                self.assertEqual(told[2], [n] + list(range(n)))
                self.assertEqual(told[3:], [[1, 0, 0, 0]] * n)

    def test_there_are_just_n_sensors(self):
        self.assertEqual(last(lay(n=4), sensor(3)), [1, 0, 0, 0])
        self.assertEqual(last(lay(n=4), sensor(4)), [-1])

    def test_each_number_is_used_as_its_own(self):
        start = lay(n=3, tol=7, p=2, q=3, rate=4)
        told = ask(start, sample(0, 7, 8), sample(0, 7, 8), sensor(2), sample(20, 20, 20), sample(20, 20, 20),
                   sensor(2), sample(20, 20, 20), sensor(2))
        self.assertEqual(told[1:], [
            [1, 7, 1, 7, 3, 3], [1, 7, 1, 7, 3, 3], [1, 0, 0, 0],
            [1, 20, 1, 11, 3, 3], [1, 20, 1, 15, 3, 3], [1, 0, 0, 0], [1, 20, 1, 19, 3, 3], [1, 0, 0, 0]])
        told = ask(start, sample(0, 7, 15), sample(0, 7, 15), sensor(2), sample(20, 20, 20), sample(20, 20, 20),
                   sensor(2), sample(20, 20, 20), sensor(2))
        self.assertEqual(told[1:], [
            [1, 7, 1, 7, 2, 3], [1, 7, 1, 7, 2, 2], [0, 0, 0, 0],
            [1, 20, 1, 11, 3, 2], [1, 20, 1, 15, 3, 2], [0, 0, 2, 0], [1, 20, 1, 19, 3, 3], [1, 0, 0, 0]])

    def test_a_second_lay_forgets_all_that_was_before(self):
        first = [lay(n=3, tol=0, p=2, q=2, rate=1), sample(5, 5, 900), sample(9, 9, 900), sample(9, None, 9),
                 bar(0), bar(1), free(1), sample(None, None, None), sample(None, 4, None)]
        second = [lay(n=5, tol=1, p=3, q=1, rate=2)]
        later = look_at_all(5) + [sample(100, 100, 101, 102, None)] + look_at_all(5)
        self.assertEqual(ask(*first, *second, *later)[len(first):], ask(*second, *later))

    def test_a_second_lay_may_have_fewer_sensors(self):
        told = ask(lay(n=9), lay(n=3), trusted(), sensor(3), sample(1, 2, 3))
        self.assertEqual(told, [[0], [0], [3, 0, 1, 2], [-1], [1, 2, 1, 2, 3, 3]])


if __name__ == "__main__":
    unittest.main()
