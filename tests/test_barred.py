"""Samples with barred and freed sensors, through the calls."""

import unittest

from tests.lines import (SILENT, ask, bar, free, last, lay, log, look, look_at_all, sample, sensor, totals, trim,
                         trusted, value, would)

NONE = (SILENT, SILENT, SILENT)


class SomeBarred(unittest.TestCase):
    def test_they_are_no_voters(self):
        told = ask(lay(n=5, tol=100), sample(1, 2, 3, 4, 5), bar(0), sample(1, 2, 3, 4, 5), bar(1),
                   sample(1, 2, 3, 4, 5), bar(4), sample(1, 2, 3, 4, 5))
        self.assertEqual([told[k] for k in (1, 3, 5, 7)],
                         [[1, 3, 1, 3, 5, 5], [1, 3, 1, 3, 4, 4], [1, 4, 1, 4, 3, 3], [1, 3, 1, 3, 2, 2]])

    def test_near_but_not_counted_as_near_or_trusted(self):
        self.assertEqual(last(lay(n=3, tol=0), bar(1), sample(5, 5, 5)), [1, 5, 1, 5, 2, 2])
        self.assertEqual(last(lay(n=3, tol=0), bar(1), would(5, 5, 5)), [1, 5, 1, 5, 2, 2])

    def test_one_that_is_shut_out_and_barred_is_not_counted_either(self):
        told = ask(lay(n=4, tol=0, p=1, q=1), sample(5, 5, 5, 9), bar(3), sample(5, 5, 5, 5), sensor(3), totals())
        self.assertEqual(told[3:], [[1, 5, 1, 5, 3, 3], [0, 0, 0, 1], [2, 2, 1, 0]])

    def test_they_stay_as_they_are_near_or_off_or_silent(self):
        start = [lay(n=4, tol=0, p=2, q=2), sample(5, 5, 5, 9), sample(5, 5, 5, 9), sample(5, 5, 9, 5), bar(2), bar(3)]
        for reading in (5, 9, SILENT):
            with self.subTest(reading=reading):
                told = ask(*start, *[sample(5, 5, reading, reading)] * 3, *look(4))
                self.assertEqual(told[len(start) + 3:], [[1, 5, 0, 1, 5], [2, 0, 1], [1, 0, 0, 0], [1, 0, 0, 0],
                                                         [1, 1, 0, 1], [0, 0, 1, 1]])

    def test_a_barred_trusted_one_that_speaks_alone_has_no_say(self):
        told = ask(lay(n=3, tol=0, p=9), bar(2), sample(SILENT, SILENT, 7), value(), trim(0))
        self.assertEqual(told[2:], [[0, 0, 0, 0, 0, 2], [0, 0, 1, 0, 0], [-5]])

    def test_their_readings_must_be_as_told_all_the_same(self):
        start = [lay(n=3), bar(2)]
        for pair in ([0, 1], [2, 0], [1, 10 ** 12 + 1]):
            with self.subTest(pair=pair):
                self.assertEqual(last(*start, [1, 6, 1, 5, 1, 5] + pair), [-1])
        self.assertEqual(last(*start, [1, 4, 1, 5, 1, 5]), [-1])

    def test_the_others_are_counted_beside_them(self):
        told = ask(lay(n=5, tol=0, p=2, q=1), bar(1), sample(9, 9, 5, 5, 5), sample(9, 9, 5, 5, 5), log(0), trusted(),
                   sample(5, 5, 5, 5, 5), log(0), trusted())
        self.assertEqual(told[2:], [[1, 5, 1, 5, 3, 4], [1, 5, 1, 5, 3, 3], [6, 0, 1, 2, 2, 0, 0], [3, 2, 3, 4],
                                    [1, 5, 1, 5, 4, 4], [9, 0, 1, 2, 2, 0, 0, 3, 0, 1], [4, 0, 2, 3, 4]])


class AllTrustedBarred(unittest.TestCase):
    START = [lay(n=4, tol=1, p=1, q=2, rate=100), sample(5, 5, 90, 80), bar(0), bar(1)]

    def test_those_shut_out_vote(self):
        told = ask(*self.START, trusted(), sample(5, 5, 70, 71), *look(4), trim(0), trim(1))
        self.assertEqual(told[4:], [[0], [1, 70, 1, 70, 2, 0], [1, 70, 0, 1, 70], [0], [1, 0, 0, 1], [1, 0, 0, 1],
                                    [0, 0, 1, 0], [0, 0, 1, 0], [0, 70], [-5]])

    def test_they_are_trusted_again_by_their_own_votes(self):
        told = ask(*self.START, sample(5, 5, 70, 71), sample(5, 5, 70, 71), trusted(), log(0))
        self.assertEqual(told[5:], [[1, 70, 1, 70, 2, 2], [2, 2, 3],
                                    [18, 1, 2, 0, 1, 3, 0, 1, 0, 2, 1, 1, 2, 3, 2, 1, 3, 3, 1]])

    def test_a_freed_one_votes_with_them(self):
        told = ask(*self.START, free(0), sample(5, 5, 5, 90), trim(1), trusted())
        self.assertEqual(told[5:], [[1, 5, 1, 5, 2, 0], [0, 5], [0]])

    def test_all_others_silent(self):
        told = ask(*self.START, sample(5, 5, SILENT, SILENT), value(), trim(0))
        self.assertEqual(told[4:], [[0, 0, 1, 5, 0, 0], [1, 5, 1, 1, 5], [-5]])


class AllButOneFreed(unittest.TestCase):
    def test_the_one_that_is_still_trusted_votes_alone(self):
        # The opening words of the document would have the four outvote the fifth; its numbered sentences don't.
        calls = [lay(n=5, tol=1, p=2, q=1)] + [bar(i) for i in range(4)] + [free(i) for i in range(4)]
        told = ask(*calls, trusted(), sample(5, 5, 5, 5, 900), trusted(), trim(0))
        self.assertEqual(told[9:], [[1, 4], [1, 900, 1, 900, 1, 1], [1, 4], [0, 900]])


class AllBarred(unittest.TestCase):
    def test_there_is_no_voted_value(self):
        told = ask(lay(n=3, tol=0, p=1, q=1), bar(0), bar(1), bar(2), would(5, 5, 5), sample(5, 5, 5),
                   *look(3), trim(0), log(0), totals())
        self.assertEqual(told[4:], [[0, 0, 0, 0, 0, 0], [0, 0, 0, 0, 0, 0], [0, 0, 1, 0, 0], [0]] + [[1, 0, 0, 1]] * 3
                         + [[-5], [9, 0, 0, 2, 0, 1, 2, 0, 2, 2], [1, 3, 0, 0]])

    def test_what_was_voted_and_put_out_stays_and_the_age_grows(self):
        told = ask(lay(n=3), sample(5, 5, 5), bar(0), bar(1), bar(2), sample(9, 9, 9), sample(9, 9, 9), value(),
                   totals())
        self.assertEqual(told[5:], [[0, 0, 1, 5, 0, 0], [0, 0, 1, 5, 0, 0], [1, 5, 2, 1, 5], [3, 3, 0, 0]])

    def test_one_freed_votes_alone(self):
        told = ask(lay(n=3, tol=0, p=1, q=1), bar(0), bar(1), bar(2), free(1), sample(4, 9, 4), trusted(), trim(0))
        self.assertEqual(told[5:], [[1, 9, 1, 9, 1, 1], [1, 1], [0, 9]])


class OrderOfRefusals(unittest.TestCase):
    def test_before_any_lay_whatever_the_argument(self):
        calls = [[number, argument] for number in (4, 6, 7, 8, 9, 10)
                 for argument in (-10 ** 18, -1, 0, 4, 5, 9, 100000, 100001, 10 ** 18)]
        calls += [[1, 1, 7], [2, 1, 7], [1, 0], [2, 0], [3], [5], [11]]
        self.assertEqual(ask(*calls), [[-2]] * len(calls))
        self.assertEqual(ask(lay(n=2), *calls), [[-1]] + [[-2]] * len(calls))

    def test_out_of_range_comes_ahead_of_the_others(self):
        all_barred = [lay(n=3), bar(0), bar(1), bar(2)]
        for i in (-10 ** 18, -1, 3, 9, 10 ** 18):
            with self.subTest(i=i):
                self.assertEqual(ask(*all_barred, bar(i), free(i), [8, i])[4:], [[-1]] * 3)
                self.assertEqual(ask(lay(n=3), bar(i), free(i), [8, i])[1:], [[-1]] * 3)
        for f in (-10 ** 18, -1, 5, 10 ** 18):
            with self.subTest(f=f):
                self.assertEqual(ask(lay(n=3), trim(f))[1:], [[-1]])

    def test_refusals_change_nothing(self):
        start = [lay(n=3, tol=0, p=2, q=2), sample(5, 5, 9), bar(1), sample(5, 5, 9), sample(5, 5, 5)]
        refused = [bar(1), free(0), free(2), [8, 1], trim(1), bar(3), free(3), [8, 3], trim(5), log(-1), log(100001),
                   sensor(3), sample(5, 5), would(5, 5), lay(n=2)]
        later = look_at_all(3) + [sample(5, 5, 5), free(1), sample(6, 6, 6)] + look_at_all(3)
        told = ask(*start, *refused, *later)[len(start):]
        self.assertEqual(told[:len(refused)], [[-3], [-4], [-4], [-3], [-5]] + [[-1]] * 10)
        self.assertEqual(told[len(refused):], ask(*start, *later)[len(start):])


if __name__ == "__main__":
    unittest.main()
