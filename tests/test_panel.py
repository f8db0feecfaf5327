"""The panel by itself: events, the count of samples, the last votes, barred ones, a panel's copy."""

import unittest

from votedsensors.desk import answer_laid
from votedsensors.panel import Panel, copied, take_sample


def shown(panel):
    sensors = [(s.trusted, s.barred, s.bad, s.good) for s in panel.sensors]
    laid = (panel.tol, panel.p, panel.q, panel.rate)
    return (laid, sensors, panel.samples, list(panel.events), panel.last, panel.age, panel.put_out,
            list(panel.votes))


class Events(unittest.TestCase):
    def test_nothing_at_first(self):
        panel = Panel(3, 0, 1, 1, 0)
        self.assertEqual((panel.samples, panel.events, panel.votes), (0, [], []))

    def test_in_the_order_of_the_sensors_with_the_sample_counted(self):
        panel = Panel(5, 0, 1, 1, 0)
        take_sample(panel, [5, 5, 5, 5, 5])
        self.assertEqual(panel.events, [])
        take_sample(panel, [9, 5, 5, 9, 5])
        self.assertEqual(panel.events, [(2, 0, 0), (2, 3, 0)])
        take_sample(panel, [5, 5, None, 5, 5])
        self.assertEqual(panel.events[2:], [(3, 0, 1), (3, 2, 0), (3, 3, 1)])
        self.assertEqual(panel.samples, 3)

    def test_a_sample_without_a_voted_value_is_one_more_too(self):
        panel = Panel(3, 0, 2, 1, 0)
        take_sample(panel, [None, None, None])
        take_sample(panel, [None, None, None])
        self.assertEqual(panel.samples, 2)
        self.assertEqual(panel.events, [(2, 0, 0), (2, 1, 0), (2, 2, 0)])


class Votes(unittest.TestCase):
    def test_the_readings_of_the_voters_alone(self):
        panel = Panel(4, 0, 1, 9, 0)
        take_sample(panel, [5, 5, 5, 8])
        self.assertEqual(sorted(panel.votes), [5, 5, 5, 8])
        take_sample(panel, [5, None, 4, 7])
        self.assertEqual(sorted(panel.votes), [4, 5])

    def test_none_without_a_voted_value(self):
        panel = Panel(3, 0, 9, 9, 0)
        take_sample(panel, [1, 2, 3])
        take_sample(panel, [None, None, None])
        self.assertEqual(panel.votes, [])


class Barred(unittest.TestCase):
    def test_has_no_vote_and_stays_as_it_is(self):
        panel = Panel(4, 0, 2, 2, 0)
        take_sample(panel, [5, 5, 5, 9])
        panel.sensors[3].barred = True
        self.assertEqual(take_sample(panel, [4, 5, 5, 4]), [1, 5, 1, 5, 2, 3])
        self.assertEqual(take_sample(panel, [5, 5, 5, 9]), [1, 5, 1, 5, 3, 3])
        self.assertEqual((panel.sensors[3].trusted, panel.sensors[3].bad, panel.sensors[3].good), (True, 1, 0))
        self.assertEqual(panel.events, [])

    def test_near_but_not_counted(self):
        panel = Panel(3, 0, 2, 2, 0)
        panel.sensors[0].barred = True
        self.assertEqual(take_sample(panel, [5, 5, 5]), [1, 5, 1, 5, 2, 2])

    def test_those_shut_out_vote_where_the_trusted_are_all_barred(self):
        panel = Panel(3, 0, 1, 9, 0)
        take_sample(panel, [5, 5, 9])
        panel.sensors[0].barred = True
        panel.sensors[1].barred = True
        self.assertEqual(take_sample(panel, [1, 1, 7]), [1, 7, 1, 5, 1, 0])
        self.assertEqual(panel.votes, [7])

    def test_all_barred_have_no_voted_value(self):
        panel = Panel(3, 0, 1, 1, 0)
        for sensor in panel.sensors:
            sensor.barred = True
        self.assertEqual(take_sample(panel, [5, 5, 5]), [0, 0, 0, 0, 0, 0])
        self.assertEqual((panel.samples, panel.age, panel.events, panel.votes), (1, 1, [], []))

    def test_sensor_and_trusted_tell_it(self):
        panel = Panel(3, 0, 1, 1, 0)
        panel.sensors[1].barred = True
        self.assertEqual(answer_laid(panel, 4, [1]), [1, 0, 0, 1])
        self.assertEqual(answer_laid(panel, 4, [2]), [1, 0, 0, 0])
        self.assertEqual(answer_laid(panel, 5, []), [2, 0, 2])


class Copied(unittest.TestCase):
    def test_a_sample_on_the_copy_leaves_the_first_as_it_was(self):
        panel = Panel(4, 1, 2, 2, 3)
        panel.sensors[1].barred = True
        for readings in ([5, 5, 5, 9], [5, 5, 5, 9], [7, 7, 7, 7], [20, 20, 7, 20], [None, 3, None, 7]):
            take_sample(panel, readings)
        panel.votes = [20, 21]
        self.assertEqual(panel.age, 1)
        before = shown(panel)
        twin = copied(panel)
        self.assertEqual(shown(twin), before)
        take_sample(twin, [40, 40, 41, 40])
        self.assertEqual(shown(panel), before)
        self.assertNotEqual(shown(twin), before)


if __name__ == "__main__":
    unittest.main()
