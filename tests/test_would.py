"""Promise 3: would."""

import unittest

from tests.lines import SILENT, ask, bar, free, lay, look_at_all, sample, sample_row, would, would_row
from tests.test_sample import wrong_rows

STARTS = {
    "just laid": [lay(n=3, tol=0, p=1, q=1, rate=2)],
    "something put out": [lay(n=3, tol=0, p=2, q=2, rate=2), sample(1, 1, 9)],
    "one shut out": [lay(n=3, tol=0, p=2, q=2, rate=2), sample(1, 1, 9), sample(4, 4, 9)],
    "one shut out and near": [lay(n=3, tol=0, p=2, q=2, rate=2), sample(1, 1, 9), sample(4, 4, 9), sample(4, 4, 4)],
    "one barred": [lay(n=3, tol=0, p=2, q=2, rate=2), sample(1, 1, 9), bar(2), sample(4, 4, 9)],
    "one freed": [lay(n=3, tol=0, p=2, q=2, rate=2), sample(1, 1, 9), bar(0), free(0), sample(4, 4, 9)],
    "all barred": [lay(n=3, tol=0, p=1, q=1, rate=2), sample(1, 1, 9), bar(0), bar(1), bar(2)],
    "none trusted": [lay(n=3, tol=0, p=1, q=2, rate=2), sample(SILENT, SILENT, SILENT)],
}
TRIED = [(4, 4, 4), (9, 9, 4), (4, 9, 30), (SILENT, SILENT, SILENT), (SILENT, SILENT, 9), (-50, -50, -50)]


class Would(unittest.TestCase):
    def test_answers_what_sample_would_answer(self):
        for name, start in STARTS.items():
            for readings in TRIED:
                with self.subTest(name, readings=readings):
                    told = ask(*start, would(*readings), sample(*readings))
                    self.assertEqual(told[-2], told[-1])
                    self.assertEqual(len(told[-2]), 6)

    def test_answers_by_itself(self):
        told = ask(lay(tol=0, p=1, q=1, rate=2), would(3, 3, 9), would(3, 3, 9), sample(0, 0, 0), would(3, 3, 9),
                   would(SILENT, SILENT, SILENT))
        self.assertEqual(told[1:], [[1, 3, 1, 3, 2, 2], [1, 3, 1, 3, 2, 2], [1, 0, 1, 0, 3, 3], [1, 3, 1, 2, 2, 2],
                                    [0, 0, 1, 0, 0, 0]])

    def test_all_that_follows_is_as_if_it_had_not_been_asked(self):
        for name, start in STARTS.items():
            for readings in TRIED:
                for following in TRIED:
                    later = look_at_all(3) + [sample(*following)] + look_at_all(3)
                    with self.subTest(name, readings=readings, following=following):
                        told = ask(*start, would(*readings), would(*readings), *later)
                        self.assertEqual(told[len(start) + 2:], ask(*start, *later)[len(start):])

    def test_before_any_lay(self):
        self.assertEqual(ask(would(1, 2, 3)), [[-2]])
        for name, numbers in wrong_rows().items():
            with self.subTest(name):
                self.assertEqual(ask(would_row(numbers)), [[-2]])

    def test_the_same_refusals_as_sample(self):
        start = STARTS["one shut out and near"]
        later = look_at_all(3) + [sample(4, 4, 4)] + look_at_all(3)
        untouched = ask(*start, *later)[len(start):]
        for name, numbers in wrong_rows().items():
            with self.subTest(name):
                told = ask(*start, would_row(numbers), sample_row(numbers), *later)
                self.assertEqual(told[len(start):len(start) + 2], [[-1], [-1]])
                self.assertEqual(told[len(start) + 2:], untouched)


if __name__ == "__main__":
    unittest.main()
