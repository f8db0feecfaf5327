"""Promise 7: soonest."""

import unittest

from tests.lines import SILENT, ask, bar, free, last, lay, look_at_all, sample, sensor, soonest

FAR = 10 ** 18


class Refusals(unittest.TestCase):
    def test_before_any_lay(self):
        for i in (-FAR, -1, 0, 2, 3, 9, FAR):
            with self.subTest(i=i):
                self.assertEqual(ask(soonest(i)), [[-2]])

    def test_the_range(self):
        for n in range(3, 10):
            with self.subTest(n=n):
                told = ask(lay(n=n, p=7), soonest(-1), soonest(0), soonest(n - 1), soonest(n), soonest(-FAR),
                           soonest(FAR))
                self.assertEqual(told[1:], [[-1], [7], [7], [-1], [-1], [-1]])

    def test_a_barred_one(self):
        told = ask(lay(n=4, tol=0, p=1, q=4), sample(5, 5, 5, 9), bar(0), bar(3), soonest(0), soonest(1), soonest(3),
                   free(3), soonest(3))
        self.assertEqual(told[4:], [[-3], [1], [-3], [1], [4]])

    def test_asking_changes_nothing(self):
        start = [lay(n=4, tol=0, p=2, q=3), sample(0, 0, 0, 1), sample(0, 0, 1, 1), sample(0, 0, 0, 0), bar(1)]
        later = look_at_all(4) + [sample(0, 0, 1, 0)] + look_at_all(4)
        asked = [soonest(i) for i in (-1, 0, 1, 2, 3, 4)]
        told = ask(*start, *asked, *later)[len(start):]
        self.assertEqual(told, [[-1], [2], [-3], [2], [2], [-1]] + ask(*start, *later)[len(start):])


class Counts(unittest.TestCase):
    def test_just_laid_it_is_p(self):
        for p in (1, 2, 100):
            with self.subTest(p=p):
                self.assertEqual(last(lay(p=p, q=50), soonest(1)), [p])

    def test_p_less_bad_of_a_trusted_one(self):
        told = ask(lay(tol=0, p=4, q=9), soonest(2), sample(0, 0, 1), soonest(2), sample(0, 0, SILENT), soonest(2),
                   sample(0, 0, 1), soonest(2), soonest(0), sample(0, 0, 0), soonest(2))
        self.assertEqual([told[k] for k in (1, 3, 5, 7, 8, 10)], [[4], [3], [2], [1], [4], [4]])

    def test_q_less_good_of_one_that_is_shut_out(self):
        told = ask(lay(tol=0, p=1, q=4), sample(0, 0, 1), soonest(2), sample(0, 0, 0), soonest(2), sample(0, 0, 0),
                   soonest(2), sample(0, 0, 0), soonest(2), sample(0, 0, 1), soonest(2))
        self.assertEqual([told[k] for k in (2, 4, 6, 8, 10)], [[4], [3], [2], [1], [4]])

    def test_trusted_again_it_is_p(self):
        self.assertEqual(last(lay(tol=0, p=2, q=1), sample(0, 0, 1), sample(0, 0, 1), sample(0, 0, 0), soonest(2)), [2])

    def test_a_freed_one_is_q(self):
        self.assertEqual(last(lay(tol=0, p=5, q=3), sample(0, 0, 1), bar(2), free(2), soonest(2)), [3])

    def test_it_changes_behind_just_so_many_samples_and_not_before(self):
        start = [lay(tol=0, p=5, q=4), sample(0, 0, 1), sample(0, 0, 1)]
        self.assertEqual(ask(*start, soonest(2), *[sample(0, 0, 1)] * 2, sensor(2), sample(0, 0, 1), sensor(2),
                             soonest(2), *[sample(0, 0, 0)] * 3, sensor(2), sample(0, 0, 0), sensor(2))[3:],
                         [[3], [1, 0, 1, 0, 2, 3], [1, 0, 1, 0, 2, 3], [1, 4, 0, 0], [1, 0, 1, 0, 2, 2], [0, 0, 0, 0],
                          [4], [1, 0, 1, 0, 3, 2], [1, 0, 1, 0, 3, 2], [1, 0, 1, 0, 3, 2], [0, 0, 3, 0],
                          [1, 0, 1, 0, 3, 3], [1, 0, 0, 0]])


if __name__ == "__main__":
    unittest.main()
