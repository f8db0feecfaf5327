"""Promise 2: sample."""

import itertools
import unittest

from tests.lines import SILENT, ask, last, lay, look, look_at_all, row, sample, sample_row, sensor, trusted, value

GREATEST = 10 ** 12
FAR = 10 ** 18


def wrong_rows():
    """Rows that are no sample's list of three sensors, by name."""
    good = row(1, 2, 3)
    rows = {"empty": [], "one short": good[:-1], "one sensor short": good[:-2], "one long": good + [0],
            "one sensor long": good + [1, 4], "silent one long": good + [0, 0], "forty": [0] * 40}
    for i in range(3):
        for mark in (-1, 2, -FAR, FAR):
            for reading in (0, 5):
                rows[f"mark {mark} reading {reading} at {i}"] = good[:2 * i] + [mark, reading] + good[2 * i + 2:]
        for reading in (-1, 1, 5, GREATEST + 1, -FAR, FAR):
            rows[f"silent with {reading} at {i}"] = good[:2 * i] + [0, reading] + good[2 * i + 2:]
        for reading in (-GREATEST - 1, GREATEST + 1, -FAR, FAR):
            rows[f"reading {reading} at {i}"] = good[:2 * i] + [1, reading] + good[2 * i + 2:]
    return rows


class SampleRefusals(unittest.TestCase):
    def test_before_any_lay(self):
        self.assertEqual(ask(sample(1, 2, 3)), [[-2]])

    def test_before_any_lay_comes_ahead_of_a_wrong_list(self):
        for name, numbers in wrong_rows().items():
            with self.subTest(name):
                self.assertEqual(ask(sample_row(numbers)), [[-2]])

    def test_behind_a_refused_lay(self):
        self.assertEqual(ask(lay(n=2), sample(1, 2, 3), lay(n=3), sample(1, 2, 3)),
                         [[-1], [-2], [0], [1, 2, 1, 2, 3, 3]])

    def test_a_wrong_list_is_refused_and_nothing_is_changed(self):
        start = [lay(n=3, tol=2, p=2, q=2, rate=1), sample(0, 0, 50), sample(4, 4, 50), sample(4, 4, 4)]
        later = look_at_all(3) + [sample(9, 9, 9), sample(SILENT, SILENT, 9)] + look_at_all(3)
        untouched = ask(*start, *later)
        for name, numbers in wrong_rows().items():
            with self.subTest(name):
                refused = ask(*start, sample_row(numbers), *later)
                self.assertEqual(refused[len(start)], [-1])
                self.assertEqual(refused[:len(start)] + refused[len(start) + 1:], untouched)

    def test_the_length_goes_by_n(self):
        for n in range(3, 10):
            for told in range(1, 12):
                with self.subTest(n=n, told=told):
                    answer = last(lay(n=n), sample(*range(told)))
                    self.assertEqual(answer == [-1], told != n)

    def test_readings_at_the_ends_of_their_range(self):
        self.assertEqual(last(lay(tol=0), sample(-GREATEST, -GREATEST, GREATEST)),
                         [1, -GREATEST, 1, -GREATEST, 2, 3])
        self.assertEqual(last(lay(tol=0), sample(GREATEST, -GREATEST, GREATEST)), [1, GREATEST, 1, GREATEST, 2, 3])

    def test_a_reading_of_0_is_not_silence(self):
        self.assertEqual(last(lay(tol=0), sample(0, 0, 0)), [1, 0, 1, 0, 3, 3])
        self.assertEqual(last(lay(tol=0), sample(0, SILENT, SILENT)), [1, 0, 1, 0, 1, 3])


class VotedValue(unittest.TestCase):
    def test_odd_in_every_order(self):
        for readings in itertools.permutations((-7, 3, 40)):
            with self.subTest(readings=readings):
                self.assertEqual(last(lay(), sample(*readings))[:2], [1, 3])

    def test_even_is_the_lesser_of_the_two_in_every_order(self):
        for readings in itertools.permutations((-7, 3, 40, 41)):
            with self.subTest(readings=readings):
                self.assertEqual(last(lay(n=4), sample(*readings))[:2], [1, 3])

    def test_negative_readings(self):
        self.assertEqual(last(lay(), sample(-3, -1, -2))[:2], [1, -2])
        self.assertEqual(last(lay(n=4), sample(-3, -1, -2, -4))[:2], [1, -3])

    def test_equal_readings_count_each(self):
        self.assertEqual(last(lay(n=5), sample(9, 1, 9, 2, 9))[:2], [1, 9])

    def test_nine_sensors(self):
        self.assertEqual(last(lay(n=9), sample(9, 8, 7, 6, 5, 4, 3, 2, 1))[:2], [1, 5])

    def test_silent_ones_have_no_say(self):
        self.assertEqual(last(lay(n=5), sample(SILENT, 8, 2, SILENT, 5))[:2], [1, 5])
        self.assertEqual(last(lay(n=5), sample(SILENT, 8, 2, SILENT, SILENT))[:2], [1, 2])
        self.assertEqual(last(lay(n=5), sample(SILENT, SILENT, SILENT, SILENT, -6))[:2], [1, -6])

    def test_all_silent(self):
        told = ask(lay(n=3, p=2), sample(SILENT, SILENT, SILENT), *look(3))
        self.assertEqual(told[1:], [[0, 0, 0, 0, 0, 3], [0, 0, 1, 0, 0], [3, 0, 1, 2]] + [[1, 1, 0, 0]] * 3)

    def test_all_silent_keeps_what_is_put_out(self):
        told = ask(lay(p=9), sample(4, 4, 4), sample(SILENT, SILENT, SILENT))
        self.assertEqual(told[2], [0, 0, 1, 4, 0, 3])

    def test_one_that_is_shut_out_has_no_say(self):
        told = ask(lay(n=4, tol=1, p=1), sample(5, 5, 5, 90), sample(1, 2, 3, 2), sample(10, 20, 30, 21))
        self.assertEqual([answer[:2] for answer in told[1:]], [[1, 5], [1, 2], [1, 20]])
        told = ask(lay(n=4, tol=1, p=1, q=9), sample(5, 5, 5, 90), sample(5, 5, 6, 6), sample(5, 6, 6, 4))
        self.assertEqual([answer[:2] for answer in told[1:]], [[1, 5], [1, 5], [1, 6]])

    def test_silent_trusted_ones_keep_those_shut_out_from_voting(self):
        told = ask(lay(n=3, tol=0, p=2, q=5), sample(1, 1, 90), sample(1, 1, 90), trusted(),
                   sample(SILENT, SILENT, 7), sensor(2), trusted())
        self.assertEqual(told[3:], [[2, 0, 1], [0, 0, 1, 1, 0, 2], [0, 0, 0, 0], [2, 0, 1]])

    def test_a_single_trusted_one_votes_alone(self):
        told = ask(lay(n=3, tol=0, p=1, q=9), sample(4, SILENT, SILENT), trusted(), sample(6, 2, 2))
        self.assertEqual(told[2:], [[1, 0], [1, 6, 1, 6, 1, 1]])
        told = ask(lay(n=3, tol=0, p=1, q=9, rate=0), sample(4, SILENT, SILENT), sample(SILENT, 2, 2), trusted())
        self.assertEqual(told[2:], [[0, 0, 1, 4, 0, 0], [0]])

    def test_none_trusted_lets_all_vote(self):
        start = [lay(n=3, tol=1, p=1, q=2), sample(SILENT, SILENT, SILENT)]
        told = ask(*start, trusted(), sample(6, 5, 90), *look(3))
        self.assertEqual(told[1:4], [[0, 0, 0, 0, 0, 0], [0], [1, 6, 1, 6, 2, 0]])
        self.assertEqual(told[4:], [[1, 6, 0, 1, 6], [0], [0, 0, 1, 0], [0, 0, 1, 0], [0, 0, 0, 0]])

    def test_none_trusted_and_all_silent(self):
        told = ask(lay(p=1, q=2), sample(SILENT, SILENT, SILENT), sample(SILENT, SILENT, SILENT), *look(3))
        self.assertEqual(told[2:], [[0, 0, 0, 0, 0, 0], [0, 0, 2, 0, 0], [0]] + [[0, 0, 0, 0]] * 3)

    def test_the_voters_go_by_the_state_before_the_sample(self):
        told = ask(lay(n=3, tol=0, p=1, q=1), sample(SILENT, SILENT, SILENT), sample(3, 9, 9), trusted(),
                   sample(3, 9, 9), trusted())
        self.assertEqual(told[2:], [[1, 9, 1, 9, 2, 2], [2, 1, 2], [1, 9, 1, 9, 2, 2], [2, 1, 2]])


class NearAndOff(unittest.TestCase):
    def test_just_tol_away_and_one_further(self):
        for tol in (0, 1, 10, 10 ** 9):
            for away, bad in ((tol, 0), (-tol, 0), (tol + 1, 1), (-tol - 1, 1)):
                with self.subTest(tol=tol, away=away):
                    told = ask(lay(n=5, tol=tol), sample(100, 100, 100, 100, 100 + away), sensor(4))
                    self.assertEqual(told[1], [1, 100, 1, 100, 5 - bad, 5])
                    self.assertEqual(told[2], [1, bad, 0, 0])

    def test_a_silent_one_is_off_though_the_voted_value_is_0(self):
        told = ask(lay(tol=10 ** 9), sample(0, 0, SILENT), sensor(2))
        self.assertEqual(told[1:], [[1, 0, 1, 0, 2, 3], [1, 1, 0, 0]])

    def test_one_that_is_shut_out_counts_as_near(self):
        told = ask(lay(tol=0, p=1, q=3), sample(1, 1, 2), sample(1, 1, 1))
        self.assertEqual(told[1:], [[1, 1, 1, 1, 2, 2], [1, 1, 1, 1, 3, 2]])

    def test_near_is_taken_from_the_voted_value_not_from_what_is_put_out(self):
        told = ask(lay(tol=1, rate=0), sample(0, 0, 0), sample(50, 50, 50), sample(50, 50, 0))
        self.assertEqual(told[1:], [[1, 0, 1, 0, 3, 3], [1, 50, 1, 0, 3, 3], [1, 50, 1, 0, 2, 3]])


class Counts(unittest.TestCase):
    def test_bad_becomes_p(self):
        for p in (1, 2, 3, 100):
            with self.subTest(p=p):
                calls = [lay(tol=0, p=p, q=2)]
                expected = [[0]]
                for bad in range(1, p):
                    calls += [sample(0, 0, 1), sensor(2)]
                    expected += [[1, 0, 1, 0, 2, 3], [1, bad, 0, 0]]
                calls += [sample(0, 0, 1), sensor(2), trusted()]
                expected += [[1, 0, 1, 0, 2, 2], [0, 0, 0, 0], [2, 0, 1]]
                self.assertEqual(ask(*calls), expected)

    def test_good_becomes_q(self):
        for q in (1, 2, 3, 100):
            with self.subTest(q=q):
                calls = [lay(tol=0, p=1, q=q), sample(0, 0, 1)]
                expected = [[0], [1, 0, 1, 0, 2, 2]]
                for good in range(1, q):
                    calls += [sample(0, 0, 0), sensor(2)]
                    expected += [[1, 0, 1, 0, 3, 2], [0, 0, good, 0]]
                calls += [sample(0, 0, 0), sensor(2), trusted()]
                expected += [[1, 0, 1, 0, 3, 3], [1, 0, 0, 0], [3, 0, 1, 2]]
                self.assertEqual(ask(*calls), expected)

    def test_a_near_sample_takes_bad_back_to_0(self):
        told = ask(lay(tol=0, p=3), sample(0, 0, 1), sample(0, 0, SILENT), sensor(2), sample(0, 0, 0), sensor(2),
                   sample(0, 0, 1), sample(0, 0, 1), sensor(2), sample(0, 0, 1), sensor(2))
        self.assertEqual([told[k] for k in (3, 5, 8, 10)], [[1, 2, 0, 0], [1, 0, 0, 0], [1, 2, 0, 0], [0, 0, 0, 0]])

    def test_an_off_sample_takes_good_back_to_0(self):
        for off in (1, SILENT):
            with self.subTest(off=off):
                told = ask(lay(tol=0, p=1, q=3), sample(0, 0, 1), sample(0, 0, 0), sample(0, 0, 0), sensor(2),
                           sample(0, 0, off), sensor(2), sample(0, 0, 0), sample(0, 0, 0), sensor(2),
                           sample(0, 0, 0), sensor(2))
                self.assertEqual([told[k] for k in (4, 6, 9, 11)],
                                 [[0, 0, 2, 0], [0, 0, 0, 0], [0, 0, 2, 0], [1, 0, 0, 0]])

    def test_one_sample_does_not_shut_out_and_trust_again(self):
        told = ask(lay(tol=0, p=1, q=1), sample(0, 0, 1), sensor(2), sample(0, 0, 0), sensor(2), sample(0, 0, 1),
                   sensor(2))
        self.assertEqual([told[k] for k in (2, 4, 6)], [[0, 0, 0, 0], [1, 0, 0, 0], [0, 0, 0, 0]])

    def test_each_sensor_has_counts_of_its_own(self):
        told = ask(lay(n=5, tol=0, p=3, q=3), sample(7, 7, 7, 1, SILENT), sample(7, 7, 7, 7, SILENT),
                   sample(7, 7, SILENT, 7, 8), sample(7, 7, 8, 7, 7), *look(5))
        self.assertEqual(told[5:], [[1, 7, 0, 1, 7], [4, 0, 1, 2, 3], [1, 0, 0, 0], [1, 0, 0, 0], [1, 2, 0, 0],
                                    [1, 0, 0, 0], [0, 0, 1, 0]])

    def test_without_a_voted_value_good_is_0_and_bad_grows(self):
        told = ask(lay(tol=0, p=2, q=3), sample(0, 0, 1), sample(0, 0, 1), sample(0, 0, 0),
                   sample(SILENT, SILENT, 0), *look(3))
        self.assertEqual(told[4:], [[0, 0, 1, 0, 0, 2], [1, 0, 1, 1, 0], [2, 0, 1], [1, 1, 0, 0], [1, 1, 0, 0],
                                    [0, 0, 0, 0]])


class PutOut(unittest.TestCase):
    def put_out(self, rate, *voted):
        told = ask(lay(rate=rate), *[sample(number, number, number) for number in voted])
        return [answer[2:4] for answer in told[1:]]

    def test_the_first_is_the_voted_value_however_far(self):
        self.assertEqual(self.put_out(0, GREATEST), [[1, GREATEST]])
        self.assertEqual(self.put_out(1, -GREATEST), [[1, -GREATEST]])

    def test_the_first_may_come_behind_samples_without_one(self):
        told = ask(lay(rate=1), sample(SILENT, SILENT, SILENT), sample(70, 70, 70))
        self.assertEqual(told[1:], [[0, 0, 0, 0, 0, 3], [1, 70, 1, 70, 3, 3]])

    def test_a_first_of_0_is_put_out_all_the_same(self):
        self.assertEqual(self.put_out(3, 0, 10), [[1, 0], [1, 3]])

    def test_it_moves_up_by_rate_and_reaches_the_voted_value(self):
        self.assertEqual(self.put_out(5, 0, 12, 12, 12, 12), [[1, 0], [1, 5], [1, 10], [1, 12], [1, 12]])

    def test_it_moves_down_by_rate_and_reaches_the_voted_value(self):
        self.assertEqual(self.put_out(5, 0, -12, -12, -12, -12), [[1, 0], [1, -5], [1, -10], [1, -12], [1, -12]])

    def test_just_rate_away_and_one_further(self):
        self.assertEqual(self.put_out(5, 0, 5), [[1, 0], [1, 5]])
        self.assertEqual(self.put_out(5, 0, 6), [[1, 0], [1, 5]])
        self.assertEqual(self.put_out(5, 0, 4), [[1, 0], [1, 4]])
        self.assertEqual(self.put_out(5, 0, -5), [[1, 0], [1, -5]])
        self.assertEqual(self.put_out(5, 0, -6), [[1, 0], [1, -5]])
        self.assertEqual(self.put_out(5, 0, -4), [[1, 0], [1, -4]])

    def test_it_turns_round(self):
        self.assertEqual(self.put_out(5, 0, 100, -100, 3), [[1, 0], [1, 5], [1, 0], [1, 3]])

    def test_with_a_rate_of_0_it_stays(self):
        self.assertEqual(self.put_out(0, 4, 9, -9, 4), [[1, 4]] * 4)

    def test_it_stays_without_a_voted_value(self):
        told = ask(lay(rate=5, p=9), sample(0, 0, 0), sample(12, 12, 12), sample(SILENT, SILENT, SILENT), value(),
                   sample(12, 12, 12))
        self.assertEqual(told[3:], [[0, 0, 1, 5, 0, 3], [1, 12, 1, 1, 5], [1, 12, 1, 10, 3, 3]])


if __name__ == "__main__":
    unittest.main()
