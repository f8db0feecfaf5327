"""Promise 8: trim."""

import itertools
import unittest

from tests.lines import (SILENT, ask, bar, free, last, lay, look_at_all, sample, sample_row, soonest, trim, would,
                         would_row)

FAR = 10 ** 18
GREATEST = 10 ** 12


class Refusals(unittest.TestCase):
    def test_before_any_lay(self):
        for f in (-FAR, -1, 0, 4, 5, FAR):
            with self.subTest(f=f):
                self.assertEqual(ask(trim(f)), [[-2]])

    def test_the_range(self):
        told = ask(lay(n=9), sample(*range(9)), trim(-1), trim(0), trim(4), trim(5), trim(-FAR), trim(FAR))
        self.assertEqual(told[2:], [[-1], [0, 4], [0, 4], [-1], [-1], [-1]])

    def test_out_of_range_comes_ahead_of_too_few(self):
        self.assertEqual(ask(lay(), trim(-1), trim(5), trim(0), trim(4))[1:], [[-1], [-1], [-5], [-5]])

    def test_too_few_and_just_enough(self):
        for votes in range(10):
            readings = [k * k for k in range(votes)] + [SILENT] * (9 - votes)
            told = ask(lay(n=9), sample(*readings), *[trim(f) for f in range(5)])[2:]
            for f in range(5):
                with self.subTest(votes=votes, f=f):
                    if votes < 2 * f + 1:
                        self.assertEqual(told[f], [-5])
                    else:
                        left = readings[f:votes - f]
                        self.assertEqual(told[f], [0, sum(left) // len(left)])

    def test_no_last_votes_before_any_sample(self):
        self.assertEqual(ask(lay(), trim(0), trim(1))[1:], [[-5], [-5]])

    def test_no_last_votes_behind_a_sample_without_a_voted_value(self):
        told = ask(lay(p=9), sample(1, 2, 3), trim(0), sample(SILENT, SILENT, SILENT), trim(0), sample(5, 6, 7),
                   trim(0))
        self.assertEqual([told[k] for k in (2, 4, 6)], [[0, 2], [-5], [0, 6]])

    def test_a_lay_forgets_the_last_votes(self):
        self.assertEqual(last(lay(), sample(1, 2, 3), lay(), trim(0)), [-5])


class Mean(unittest.TestCase):
    def test_without_the_f_least_and_the_f_greatest_in_every_order(self):
        for readings in itertools.permutations((-100, 3, 4, 6, 1000)):
            with self.subTest(readings=readings):
                told = ask(lay(n=5), sample(*readings), trim(0), trim(1), trim(2), trim(3))
                self.assertEqual(told[2:], [[0, 182], [0, 4], [0, 4], [-5]])

    def test_rounded_down(self):
        for readings, mean in (((-1, -2, SILENT), -2), ((1, 2, SILENT), 1), ((-1, 0, 0), -1), ((0, 0, 1), 0),
                               ((-1, -1, 0), -1), ((-4, -4, -3), -4), ((-3, -3, -3), -3), ((2, 2, 1), 1),
                               ((-3, 2, SILENT), -1)):
            with self.subTest(readings=readings):
                self.assertEqual(last(lay(), sample(*readings), trim(0)), [0, mean])

    def test_below_0_behind_the_trim(self):
        self.assertEqual(last(lay(n=4), sample(-900, -2, -1, 900), trim(1)), [0, -2])
        self.assertEqual(last(lay(n=5), sample(-900, -2, -1, -1, 900), trim(1)), [0, -2])

    def test_equal_readings_count_each(self):
        self.assertEqual(last(lay(n=5), sample(7, 7, 7, 1, 7), trim(1)), [0, 7])
        self.assertEqual(last(lay(n=5), sample(1, 1, 7, 1, 7), trim(1)), [0, 3])

    def test_readings_at_the_ends_of_their_range(self):
        self.assertEqual(last(lay(n=9), sample(*[GREATEST] * 9), trim(0)), [0, GREATEST])
        self.assertEqual(last(lay(n=9), sample(*[-GREATEST] * 9), trim(0)), [0, -GREATEST])
        self.assertEqual(last(lay(n=9), sample(*[GREATEST] * 5, *[-GREATEST] * 4), trim(0)), [0, GREATEST // 9])
        self.assertEqual(last(lay(n=9), sample(*[GREATEST] * 4, *[-GREATEST] * 5), trim(0)), [0, -GREATEST // 9])


class LastVotes(unittest.TestCase):
    def test_of_the_last_sample_alone(self):
        self.assertEqual(last(lay(), sample(1, 2, 3), sample(10, 20, SILENT), trim(0)), [0, 15])

    def test_those_shut_out_and_barred_and_silent_are_not_among_them(self):
        told = ask(lay(n=5, tol=0, p=1, q=9), sample(5, 5, 5, 5, 9), trim(0), bar(3), sample(5, 5, SILENT, 90, 90),
                   trim(0), trim(1))
        self.assertEqual([told[k] for k in (2, 5, 6)], [[0, 5], [0, 5], [-5]])

    def test_one_that_is_off_is_among_them(self):
        self.assertEqual(last(lay(tol=0, p=1), sample(5, 5, 11), trim(0)), [0, 7])

    def test_those_shut_out_are_among_them_where_none_is_trusted(self):
        told = ask(lay(tol=0, p=1, q=9), sample(SILENT, SILENT, SILENT), sample(5, 6, 10), trim(0), trim(1))
        self.assertEqual(told[3:], [[0, 7], [0, 6]])

    def test_a_bar_or_a_free_leaves_them(self):
        told = ask(lay(), sample(1, 2, 9), bar(2), trim(0), trim(1), free(2), trim(0), trim(1))
        self.assertEqual([told[k] for k in (3, 4, 6, 7)], [[0, 4], [0, 2], [0, 4], [0, 2]])

    def test_would_leaves_them(self):
        told = ask(lay(), would(1, 2, 3), trim(0), sample(4, 5, 9), would(70, 70, 70), trim(0), trim(1),
                   would(SILENT, SILENT, SILENT), trim(0), trim(1))
        self.assertEqual([told[k] for k in (2, 5, 6, 8, 9)], [[-5], [0, 6], [0, 5], [0, 6], [0, 5]])

    def test_refused_samples_leave_them(self):
        told = ask(lay(), sample(4, 5, 9), sample_row([1, 1, 1, 1]), would_row([]), trim(0))
        self.assertEqual(told[2:], [[-1], [-1], [0, 6]])

    def test_asking_changes_nothing(self):
        start = [lay(tol=0, p=2, q=3), sample(3, 1, 2), sample(0, 5, 1)]
        later = look_at_all(3) + [sample(0, 0, 1), soonest(2)] + look_at_all(3)
        told = ask(*start, trim(0), trim(1), trim(2), trim(5), *later)[len(start):]
        self.assertEqual(told, [[0, 2], [0, 1], [-5], [-1]] + ask(*start, *later)[len(start):])


if __name__ == "__main__":
    unittest.main()
