"""Promise 4, of it: value, sensor and trusted. (Of totals and log: test_log.py.)"""

import unittest

from tests.lines import SILENT, ask, bar, last, lay, look, look_at_all, sample, sensor, trusted, value

FAR = 10 ** 18
NONE = (SILENT, SILENT, SILENT)


class Value(unittest.TestCase):
    def test_before_any_lay(self):
        self.assertEqual(ask(value()), [[-2]])

    def test_just_laid(self):
        self.assertEqual(last(lay(), value()), [0, 0, 0, 0, 0])

    def test_the_age_grows_before_the_first_voted_value(self):
        told = ask(lay(p=9), sample(*NONE), value(), sample(*NONE), value(), sample(8, 8, 8), value())
        self.assertEqual([told[k] for k in (2, 4, 6)], [[0, 0, 1, 0, 0], [0, 0, 2, 0, 0], [1, 8, 0, 1, 8]])

    def test_the_age_grows_behind_a_voted_value_and_goes_back_to_0(self):
        told = ask(lay(p=9), sample(8, 8, 8), value(), sample(*NONE), value(), sample(*NONE), value(),
                   sample(9, 9, 9), value())
        self.assertEqual([told[k] for k in (2, 4, 6, 8)],
                         [[1, 8, 0, 1, 8], [1, 8, 1, 1, 8], [1, 8, 2, 1, 8], [1, 9, 0, 1, 9]])

    def test_the_last_value_and_what_is_put_out_differ(self):
        self.assertEqual(last(lay(rate=5), sample(0, 0, 0), sample(-90, -90, -90), value()), [1, -90, 0, 1, -5])

    def test_a_last_value_of_0(self):
        self.assertEqual(last(lay(), sample(0, 0, 0), value()), [1, 0, 0, 1, 0])


class OneSensor(unittest.TestCase):
    def test_before_any_lay(self):
        for i in (-FAR, -1, 0, 2, 3, FAR):
            with self.subTest(i=i):
                self.assertEqual(ask(sensor(i)), [[-2]])

    def test_the_range(self):
        for n in range(3, 10):
            told = ask(lay(n=n), sensor(-1), sensor(0), sensor(n - 1), sensor(n), sensor(-FAR), sensor(FAR))
            with self.subTest(n=n):
                self.assertEqual(told[1:], [[-1], [1, 0, 0, 0], [1, 0, 0, 0], [-1], [-1], [-1]])

    def test_a_refusal_changes_nothing(self):
        start = [lay(tol=0, p=2, q=2), sample(0, 0, 1)]
        later = look_at_all(3) + [sample(0, 0, 1)] + look_at_all(3)
        told = ask(*start, sensor(-1), sensor(3), *later)
        self.assertEqual(told[2:4], [[-1], [-1]])
        self.assertEqual(told[4:], ask(*start, *later)[2:])

    def test_each_answers_of_itself(self):
        told = ask(lay(n=4, tol=0, p=2, q=5), sample(0, 0, 0, 1), sample(0, 0, 0, 1), sample(0, 1, 0, 0), *look(4))
        self.assertEqual(told[6:], [[1, 0, 0, 0], [1, 1, 0, 0], [1, 0, 0, 0], [0, 0, 1, 0]])


class Trusted(unittest.TestCase):
    def test_before_any_lay(self):
        self.assertEqual(ask(trusted()), [[-2]])

    def test_some_are_shut_out(self):
        told = ask(lay(n=5, tol=0, p=1, q=1), sample(9, 5, 5, 9, 5), trusted(), sample(5, 5, 5, 9, 5), trusted())
        self.assertEqual([told[2], told[4]], [[3, 1, 2, 4], [4, 0, 1, 2, 4]])

    def test_none(self):
        self.assertEqual(last(lay(p=1), sample(*NONE), trusted()), [0])

    def test_barred_ones_are_left_out(self):
        told = ask(lay(n=4), bar(2), trusted(), bar(0), trusted(), bar(1), bar(3), trusted())
        self.assertEqual([told[k] for k in (2, 4, 7)], [[3, 0, 1, 3], [2, 1, 3], [0]])

    def test_asking_changes_nothing(self):
        start = [lay(tol=0, p=2, q=2), sample(0, 0, 1), sample(0, 0, 1), sample(*NONE)]
        once = ask(*start, *look_at_all(3))[len(start):]
        self.assertEqual(ask(*start, *look_at_all(3), *look_at_all(3))[len(start):], once + once)


if __name__ == "__main__":
    unittest.main()
