"""Promise 4, of it: totals and log."""

import unittest

from tests.lines import SILENT, ask, bar, free, last, lay, log, look_at_all, sample, sample_row, totals, would

FAR = 10 ** 18
NONE = (SILENT, SILENT, SILENT)


def bars_and_frees(many):
    """So many calls that write an event each, and the events: (samples, sensor, what) each."""
    calls = []
    events = []
    for k in range(many):
        i = k // 2 % 3
        calls.append(bar(i) if k % 2 == 0 else free(i))
        events.append((0, i, 2 + k % 2))
    return calls, events


def flat(events):
    return [3 * len(events)] + [number for event in events for number in event]


class Log(unittest.TestCase):
    def test_before_any_lay(self):
        for k in (-FAR, -1, 0, 100000, 100001, FAR):
            with self.subTest(k=k):
                self.assertEqual(ask(log(k)), [[-2]])

    def test_the_range(self):
        told = ask(lay(), bar(1), log(-1), log(0), log(100000), log(100001), log(-FAR), log(FAR))
        self.assertEqual(told[2:], [[-1], [3, 0, 1, 2], [0], [-1], [-1], [-1]])

    def test_no_events(self):
        self.assertEqual(ask(lay(), log(0), log(1), sample(1, 1, 1), log(0))[1:], [[0], [0], [1, 1, 1, 1, 3, 3], [0]])

    def test_of_all_four_sorts(self):
        told = ask(lay(n=5, tol=0, p=1, q=1), sample(9, 5, 5, 9, 5), bar(0), sample(5, 5, SILENT, 5, 5), free(0),
                   sample(5, 5, 5, 5, 5), log(0), log(1), log(3), log(7), log(8), log(9))
        events = [(1, 0, 0), (1, 3, 0), (1, 0, 2), (2, 2, 0), (2, 3, 1), (2, 0, 3), (3, 0, 1), (3, 2, 1)]
        self.assertEqual(told[6:], [flat(events[k:]) for k in (0, 1, 3, 7, 8, 9)])

    def test_at_most_fifty_from_the_kth_on(self):
        for many in (0, 1, 49, 50, 51, 99, 100, 101, 130):
            calls, events = bars_and_frees(many)
            places = [k for k in (0, 1, 2, 49, 50, 51, 79, 80, 81, many - 51, many - 50, many - 49, many - 1, many,
                                  many + 1, many + 50) if k >= 0]
            told = ask(lay(), *calls, *[log(k) for k in places])[1 + many:]
            for k, answer in zip(places, told):
                with self.subTest(many=many, k=k):
                    self.assertEqual(answer, flat(events[k:][:50]))

    def test_fifty_may_end_within_a_sample(self):
        steps = [sample(*[SILENT] * 9), sample(*[5] * 9)] * 4
        told = ask(lay(n=9, p=1, q=1), *steps, log(0), log(50), log(72))
        events = [(k + 1, i, k % 2) for k in range(8) for i in range(9)]
        self.assertEqual(told[9:], [flat(events[:50]), flat(events[50:]), [0]])

    def test_asking_changes_nothing(self):
        calls, events = bars_and_frees(53)
        start = [lay(), *calls]
        told = ask(*start, log(0), log(-1), log(50), log(0), log(3), *look_at_all(3))[len(start):]
        self.assertEqual(told[:5], [flat(events[:50]), [-1], flat(events[50:]), flat(events[:50]), flat(events[3:])])
        self.assertEqual(told[5:], ask(*start, *look_at_all(3))[len(start):])

    def test_what_writes_no_event(self):
        start = [lay(n=3, tol=0, p=1, q=1), bar(0)]
        nothing = [bar(0), free(1), bar(3), free(-1), would(1, 2, 9), would(*NONE), sample_row([]), lay(n=2)]
        told = ask(*start, *nothing, log(0), totals())
        self.assertEqual(told[-2:], [[3, 0, 0, 2], [0, 1, 0, 0]])


class Totals(unittest.TestCase):
    def test_before_any_lay(self):
        self.assertEqual(ask(totals()), [[-2]])

    def test_just_laid(self):
        self.assertEqual(last(lay(), totals()), [0, 0, 0, 0])

    def test_events_of_all_four_sorts(self):
        told = ask(lay(n=5, tol=0, p=1, q=1), sample(9, 5, 5, 9, 5), totals(), bar(0), totals(),
                   sample(5, 5, SILENT, 5, 5), totals(), free(0), totals(), sample(5, 5, 9, 5, 5), totals())
        self.assertEqual([told[k] for k in (2, 4, 6, 8, 10)],
                         [[1, 2, 2, 0], [1, 3, 2, 0], [2, 5, 3, 1], [2, 6, 3, 1], [3, 7, 3, 2]])

    def test_samples_without_a_voted_value_count_too(self):
        self.assertEqual(last(lay(p=9), sample(*NONE), sample(1, 1, 1), sample(*NONE), totals()), [3, 0, 0, 0])

    def test_refused_samples_and_would_do_not_count(self):
        self.assertEqual(last(lay(), sample(1, 1, 1), sample(1, 1), would(1, 1, 1), would(*NONE), totals()),
                         [1, 0, 0, 0])

    def test_more_events_than_a_log_tells(self):
        steps = [sample(*[SILENT] * 9), sample(*[5] * 9)] * 150
        self.assertEqual(last(lay(n=9, p=1, q=1), *steps, totals()), [300, 2700, 1350, 1350])

    def test_a_second_lay_forgets_the_events_and_the_samples(self):
        start = [lay(n=3, tol=0, p=1, q=1), sample(5, 5, 9), sample(5, 5, 5), bar(0), free(0)]
        told = ask(*start, totals(), log(0), lay(), totals(), log(0), sample(1, 1, 1), bar(2), totals(), log(0))
        self.assertEqual(told[5:], [[2, 4, 1, 1], [12, 1, 2, 0, 2, 2, 1, 2, 0, 2, 2, 0, 3], [0], [0, 0, 0, 0], [0],
                                    [1, 1, 1, 1, 3, 3], [1], [1, 1, 0, 0], [3, 1, 2, 2]])

    def test_a_refused_lay_forgets_nothing(self):
        told = ask(lay(), sample(1, 1, 1), bar(0), lay(n=10), totals(), log(0))
        self.assertEqual(told[3:], [[-1], [1, 1, 0, 0], [3, 1, 0, 2]])


if __name__ == "__main__":
    unittest.main()
