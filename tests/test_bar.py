"""Promise 5: bar."""

import unittest

from tests.lines import SILENT, ask, bar, free, last, lay, log, look_at_all, sample, sensor, totals, trusted, value

FAR = 10 ** 18


class Refusals(unittest.TestCase):
    def test_before_any_lay(self):
        for i in (-FAR, -1, 0, 2, 3, 9, FAR):
            with self.subTest(i=i):
                self.assertEqual(ask(bar(i), lay(), *[sensor(k) for k in range(3)], totals()),
                                 [[-2], [0]] + [[1, 0, 0, 0]] * 3 + [[0, 0, 0, 0]])

    def test_the_range(self):
        for n in range(3, 10):
            with self.subTest(n=n):
                told = ask(lay(n=n), bar(-1), bar(n), bar(-FAR), bar(FAR), totals(), bar(0), bar(n - 1), trusted())
                self.assertEqual(told[1:], [[-1]] * 4 + [[0, 0, 0, 0], [1], [1], [n - 2] + list(range(1, n - 1))])

    def test_a_refusal_changes_nothing(self):
        start = [lay(n=3, tol=0, p=3, q=3), sample(0, 0, 1), bar(2), sample(0, 0, 0)]
        later = look_at_all(3) + [sample(0, 1, 0), free(2), sample(0, 0, 0)] + look_at_all(3)
        untouched = ask(*start, *later)[len(start):]
        for i, refusal in ((2, -3), (-1, -1), (3, -1)):
            with self.subTest(i=i):
                told = ask(*start, bar(i), *later)[len(start):]
                self.assertEqual(told, [[refusal]] + untouched)

    def test_barred_already(self):
        self.assertEqual(ask(lay(), bar(1), bar(1), bar(1), bar(0), log(0)),
                         [[0], [1], [-3], [-3], [1], [6, 0, 1, 2, 0, 0, 2]])

    def test_barred_again_behind_a_free(self):
        told = ask(lay(), bar(1), free(1), bar(1), bar(1), sensor(1), log(0))
        self.assertEqual(told[1:], [[1], [1], [1], [-3], [0, 0, 0, 1], [9, 0, 1, 2, 0, 1, 3, 0, 1, 2]])


class State(unittest.TestCase):
    def test_a_trusted_one_keeps_its_state_and_its_bad_over_samples(self):
        told = ask(lay(n=4, tol=0, p=3, q=3), sample(5, 5, 5, 9), sample(5, 5, 5, 9), bar(3), sensor(3),
                   sample(5, 5, 5, 9), sensor(3), sample(5, 5, 5, 5), sensor(3), sample(5, 5, 5, SILENT), sensor(3),
                   sample(SILENT, SILENT, SILENT, 5), sensor(3), log(0))
        self.assertEqual([told[k] for k in (4, 6, 8, 10, 12)], [[1, 2, 0, 1]] * 5)
        self.assertEqual(told[13], [3, 2, 3, 2])

    def test_one_that_is_shut_out_keeps_its_state_and_its_good_over_samples(self):
        told = ask(lay(n=4, tol=0, p=1, q=3), sample(5, 5, 5, 9), sample(5, 5, 5, 5), sample(5, 5, 5, 5), bar(3),
                   sensor(3), sample(5, 5, 5, 5), sensor(3), sample(5, 5, 5, 9), sensor(3),
                   sample(5, 5, 5, SILENT), sensor(3), log(0))
        self.assertEqual([told[k] for k in (5, 7, 9, 11)], [[0, 0, 2, 1]] * 4)
        self.assertEqual(told[12], [6, 1, 3, 0, 3, 3, 2])

    def test_the_others_stay_as_they_are(self):
        told = ask(lay(n=4, tol=0, p=3), sample(5, 5, 5, 9), bar(1), *[sensor(i) for i in range(4)], trusted())
        self.assertEqual(told[3:], [[1, 0, 0, 0], [1, 0, 0, 1], [1, 0, 0, 0], [1, 1, 0, 0], [3, 0, 2, 3]])

    def test_it_is_no_sample(self):
        told = ask(lay(n=3, rate=5), sample(5, 5, 5), sample(SILENT, SILENT, SILENT), bar(1), value(), totals())
        self.assertEqual(told[4:], [[1, 5, 1, 1, 5], [2, 1, 0, 0]])

    def test_the_event_tells_how_many_samples_there_are(self):
        calls = [lay(n=3), bar(0), sample(1, 1, 1), bar(2), sample(1, 1, 1), sample(1, 1, 1), bar(1), log(0)]
        self.assertEqual(last(*calls), [9, 0, 0, 2, 1, 2, 2, 3, 1, 2])

    def test_all_may_be_barred(self):
        told = ask(lay(n=3), bar(0), bar(1), bar(2), trusted(), *[sensor(i) for i in range(3)])
        self.assertEqual(told[1:], [[1], [1], [1], [0]] + [[1, 0, 0, 1]] * 3)


if __name__ == "__main__":
    unittest.main()
