"""Promise 6: free."""

import unittest

from tests.lines import SILENT, ask, bar, free, last, lay, log, look_at_all, sample, sensor, totals, trusted, value

FAR = 10 ** 18


class Refusals(unittest.TestCase):
    def test_before_any_lay(self):
        for i in (-FAR, -1, 0, 2, 3, 9, FAR):
            with self.subTest(i=i):
                self.assertEqual(ask(free(i), lay(), *[sensor(k) for k in range(3)], totals()),
                                 [[-2], [0]] + [[1, 0, 0, 0]] * 3 + [[0, 0, 0, 0]])

    def test_the_range(self):
        for n in range(3, 10):
            with self.subTest(n=n):
                bars = [bar(i) for i in range(n)]
                told = ask(lay(n=n), *bars, free(-1), free(n), free(-FAR), free(FAR), totals(), free(0), free(n - 1),
                           *[sensor(i) for i in range(n)])
                self.assertEqual(told[n + 1:n + 8], [[-1]] * 4 + [[0, n, 0, 0], [1], [1]])
                self.assertEqual(told[n + 8:], [[0, 0, 0, 0]] + [[1, 0, 0, 1]] * (n - 2) + [[0, 0, 0, 0]])

    def test_one_that_is_not_barred(self):
        told = ask(lay(n=4, tol=0, p=1), sample(5, 5, 5, 9), bar(1), free(0), free(3), free(1), free(1), log(0))
        self.assertEqual(told[3:], [[-4], [-4], [1], [-4], [9, 1, 3, 0, 1, 1, 2, 1, 1, 3]])

    def test_a_refusal_changes_nothing(self):
        start = [lay(n=4, tol=0, p=2, q=3), sample(0, 0, 0, 1), sample(0, 0, 0, 1), bar(0), sample(0, 0, 2, 0)]
        later = look_at_all(4) + [sample(0, 0, 2, 0), free(0), sample(0, 0, 0, 0)] + look_at_all(4)
        untouched = ask(*start, *later)[len(start):]
        for i, refusal in ((1, -4), (2, -4), (3, -4), (-1, -1), (4, -1)):
            with self.subTest(i=i):
                told = ask(*start, free(i), *later)[len(start):]
                self.assertEqual(told, [[refusal]] + untouched)


class State(unittest.TestCase):
    def test_one_that_was_trusted_is_shut_out_with_counts_0(self):
        told = ask(lay(n=4, tol=0, p=3), sample(5, 5, 5, 9), sample(5, 5, 5, 9), bar(3), sensor(3), free(3),
                   sensor(3), trusted(), log(0))
        self.assertEqual(told[4:], [[1, 2, 0, 1], [1], [0, 0, 0, 0], [3, 0, 1, 2], [6, 2, 3, 2, 2, 3, 3]])

    def test_one_that_was_shut_out_begins_its_good_anew(self):
        told = ask(lay(n=4, tol=0, p=1, q=3), sample(5, 5, 5, 9), sample(5, 5, 5, 5), sample(5, 5, 5, 5), bar(3),
                   sensor(3), free(3), sensor(3), sample(5, 5, 5, 5), sensor(3))
        self.assertEqual(told[5:], [[0, 0, 2, 1], [1], [0, 0, 0, 0], [1, 5, 1, 5, 4, 3], [0, 0, 1, 0]])

    def test_trusted_again_after_q_near_samples(self):
        for q in (1, 2, 3, 100):
            with self.subTest(q=q):
                calls = [lay(n=3, tol=0, p=1, q=q), bar(2), free(2)]
                expected = [[0], [1], [1]]
                for good in range(1, q):
                    calls += [sample(5, 5, 5), sensor(2)]
                    expected += [[1, 5, 1, 5, 3, 2], [0, 0, good, 0]]
                calls += [sample(5, 5, 5), sensor(2), trusted(), log(0)]
                expected += [[1, 5, 1, 5, 3, 3], [1, 0, 0, 0], [3, 0, 1, 2], [9, 0, 2, 2, 0, 2, 3, q, 2, 1]]
                self.assertEqual(ask(*calls), expected)

    def test_an_off_sample_takes_its_good_back(self):
        told = ask(lay(n=3, tol=0, p=9, q=2), bar(2), free(2), sample(5, 5, 5), sample(5, 5, 6), sensor(2),
                   sample(5, 5, 5), sensor(2), sample(5, 5, 5), sensor(2))
        self.assertEqual([told[k] for k in (5, 7, 9)], [[0, 0, 0, 0], [0, 0, 1, 0], [1, 0, 0, 0]])

    def test_it_does_not_vote_while_others_are_trusted(self):
        told = ask(lay(n=3, tol=0, p=9, q=9), bar(0), free(0), sample(7, 3, SILENT), sample(1, 3, 4))
        self.assertEqual(told[3:], [[1, 3, 1, 3, 1, 2], [1, 3, 1, 3, 1, 2]])

    def test_the_others_stay_as_they_are(self):
        told = ask(lay(n=4, tol=0, p=3), sample(5, 5, 5, 9), bar(1), bar(2), free(1), *[sensor(i) for i in range(4)])
        self.assertEqual(told[5:], [[1, 0, 0, 0], [0, 0, 0, 0], [1, 0, 0, 1], [1, 1, 0, 0]])

    def test_it_is_no_sample(self):
        told = ask(lay(n=3), sample(5, 5, 5), sample(SILENT, SILENT, SILENT), bar(1), free(1), value(), totals())
        self.assertEqual(told[5:], [[1, 5, 1, 1, 5], [2, 2, 0, 0]])

    def test_the_event_tells_how_many_samples_there_are(self):
        self.assertEqual(last(lay(n=3), bar(2), sample(1, 1, 1), sample(1, 1, 1), free(2), log(0)),
                         [6, 0, 2, 2, 2, 2, 3])


if __name__ == "__main__":
    unittest.main()
