"""The interface: answers(calls)."""

import unittest

import votedsensors.desk
from tests.lines import (SILENT, Unchangeable, ask, bar, free, lay, log, sample, sensor, soonest, totals, trim, trusted,
                         value, would)


class Interface(unittest.TestCase):
    def test_a_line_written_out(self):
        line = [3, 0, 3, 1, 2, 2, 4, 1, 6, 1, 10, 1, 11, 0, 0, 2, 6, 1, 20, 1, 20, 1, 20, 3, 4, 2, 4, 3, 5, 1, 0, 0,
                10, 1, 1, 1, 1, 5]
        self.assertEqual(votedsensors.desk.answers(line), [
            1, -2, 1, 0, 6, 1, 10, 1, 10, 2, 3, 6, 1, 20, 1, 14, 3, 3, 5, 1, 10, 0, 1, 10, 4, 1, 1, 0, 0, 1, -1,
            4, 3, 0, 1, 2, 1, -1, 1, -1, 4, 3, 0, 1, 2])

    def test_a_line_with_every_call_written_out(self):
        line = [11, 0, 3, 0, 2, 3, 9, 6, 2, 1, 6, 1, -1, 1, -2, 1, 50, 9, 0, 9, 1, 7, 2, 8, 0, 8, 2, 10, 0, 11, 4, 2, 5,
                3, 2, 6, 1, -2, 1, -2, 1, -2, 10, 1, 6, 3, 7, 0]
        self.assertEqual(votedsensors.desk.answers(line), [
            1, -2, 1, 0, 1, 1, 6, 1, -2, 1, -2, 1, 2, 2, 0, -2, 1, -5, 1, 1, 1, 1, 1, 3,
            7, 6, 0, 2, 2, 1, 2, 3, 4, 1, 2, 0, 0, 4, 0, 0, 0, 0, 3, 2, 0, 1, 5, 1, -2, 0, 1, -2,
            6, 1, -2, 1, -2, 3, 2, 4, 3, 1, 2, 3, 1, -1, 1, -4])

    def test_one_call(self):
        self.assertEqual(votedsensors.desk.answers([5]), [1, -2])
        self.assertEqual(votedsensors.desk.answers([0, 3, 0, 1, 1, 0]), [1, 0])

    def test_calls_are_read_by_their_lengths_before_a_lay_too(self):
        told = ask(sample(0, 3, 5), would(), sample(), sensor(0), [1, 40] + [0] * 40, [2, 1, 5], trusted(), value(),
                   bar(0), free(3), soonest(11), trim(10), log(9), totals(), lay())
        self.assertEqual(told, [[-2]] * 14 + [[0]])

    def test_a_refused_list_is_read_to_its_end(self):
        told = ask(lay(), [1, 0], [2, 0], [1, 40] + [3] * 40, [2, 3, 5, 5, 5], [1, 1, 0], trusted())
        self.assertEqual(told, [[0]] + [[-1]] * 5 + [[3, 0, 1, 2]])

    def test_four_hundred_calls(self):
        steps = [sample(k, k + 1, SILENT) for k in range(399)]
        told = ask(lay(tol=1, p=100, rate=1), *steps)
        self.assertEqual(told[1], [1, 0, 1, 0, 2, 3])
        self.assertEqual(told[99], [1, 98, 1, 98, 2, 3])
        self.assertEqual(told[100], [1, 99, 1, 99, 2, 2])
        self.assertEqual(told[399], [1, 398, 1, 398, 2, 2])

    def test_four_hundred_calls_of_all_sorts(self):
        # Twelve calls, of which a bar and a free write an event each, with one sample between a lay and the next.
        turn = [lay(n=3, tol=0, p=2, q=3), sample(5, 6, 6), would(0, 0, 0), value(), sensor(0), trusted(), bar(1),
                free(1), soonest(1), trim(1), log(1), totals()]
        answered = [[0], [1, 6, 1, 6, 2, 3], [1, 0, 1, 1, 3, 3], [1, 6, 0, 1, 6], [1, 1, 0, 0], [3, 0, 1, 2], [1], [1],
                    [3], [0, 6], [3, 1, 1, 3], [1, 2, 0, 0]]
        self.assertEqual(ask(*(turn * 34)[:400]), (answered * 34)[:400])

    def test_four_hundred_logs_of_fifty_events(self):
        calls = [lay(n=9, p=1, q=1)] + [sample(*[SILENT] * 9), sample(*[5] * 9)] * 3 + [log(0)] * 393
        events = [(k + 1, i, k % 2) for k in range(6) for i in range(9)][:50]
        self.assertEqual(ask(*calls)[7:], [[150] + [number for event in events for number in event]] * 393)

    def test_the_longest_line(self):
        line = [0, 9, 0, 100, 100, 0]
        for k in range(399):
            line += [1, 38] + [0] * 38
        self.assertLessEqual(len(line), 16000)
        self.assertEqual(votedsensors.desk.answers(line), [1, 0] + [1, -1] * 399)

    def test_every_line_begins_anew(self):
        votedsensors.desk.answers(lay() + sample(1, 2, 3))
        self.assertEqual(votedsensors.desk.answers([3]), [1, -2])

    def test_what_is_given_back_may_be_changed(self):
        line = lay() + trusted()
        first = votedsensors.desk.answers(line)
        first.clear()
        self.assertEqual(votedsensors.desk.answers(line), [1, 0, 4, 3, 0, 1, 2])
        self.assertIsNot(votedsensors.desk.answers(line), votedsensors.desk.answers(line))

    def test_the_unchangeable_list_fails_at_a_change(self):
        with self.assertRaises(AssertionError):
            Unchangeable([1]).append(2)
        with self.assertRaises(AssertionError):
            Unchangeable([1])[0] = 2

    def test_another_call_is_not_answered(self):
        for line in ([-1], [12], lay() + [12]):
            with self.subTest(line=line):
                with self.assertRaises(votedsensors.desk.UnknownCall):
                    votedsensors.desk.answers(line)


if __name__ == "__main__":
    unittest.main()
