"""The sensors that were laid, and what a sample, a bar or a free makes of them.

A reading is a whole number, or None where the sensor is silent. A value that there may be none of
(the voted value, the last value, what's put out) is None where there is none.
"""

SHUT_OUT = 0
TRUSTED_AGAIN = 1
BARRED = 2
FREED = 3


class Sensor:
    """One sensor: its state and its two counts."""

    def __init__(self):
        self.trusted = True
        self.barred = False
        self.bad = 0
        self.good = 0


class Panel:
    """All that is kept from one call to the next, new as behind a lay."""

    def __init__(self, n, tol, p, q, rate):
        self.tol = tol
        self.p = p
        self.q = q
        self.rate = rate
        self.sensors = [Sensor() for i in range(n)]
        self.samples = 0
        self.events = []
        self.last = None
        self.age = 0
        self.put_out = None
        self.votes = []


def copied_sensor(sensor):
    twin = Sensor()
    twin.trusted = sensor.trusted
    twin.barred = sensor.barred
    twin.bad = sensor.bad
    twin.good = sensor.good
    return twin


def copied(panel):
    """Gives a panel that shares nothing changeable with the one given, so that a sample can be tried on it."""
    twin = Panel(0, panel.tol, panel.p, panel.q, panel.rate)
    twin.sensors = [copied_sensor(sensor) for sensor in panel.sensors]
    twin.samples = panel.samples
    twin.events = list(panel.events)
    twin.last = panel.last
    twin.age = panel.age
    twin.put_out = panel.put_out
    twin.votes = list(panel.votes)
    return twin


def trusted_numbers(sensors):
    """The numbers of the sensors that are trusted and not barred, the least first."""
    return [i for i in range(len(sensors)) if sensors[i].trusted and not sensors[i].barred]


def unbarred_numbers(sensors):
    return [i for i in range(len(sensors)) if not sensors[i].barred]


def voters(sensors):
    # Silence is not looked at here: a silent trusted sensor still keeps those that are shut out from voting.
    trusted = trusted_numbers(sensors)
    if len(trusted) > 0:
        return trusted
    return unbarred_numbers(sensors)


def votes_of(sensors, readings):
    return [readings[i] for i in voters(sensors) if readings[i] is not None]


def middle(numbers):
    """The middle one, the lesser of the two of an even number of them; None of no numbers."""
    if len(numbers) == 0:
        return None
    return sorted(numbers)[(len(numbers) - 1) // 2]


def is_near(reading, voted, tol):
    if reading is None or voted is None:
        return False
    return abs(reading - voted) <= tol


def begin_state(sensor, trusted):
    """Makes a sensor trusted or shut out anew: whatever it counted before no longer matters."""
    sensor.trusted = trusted
    sensor.bad = 0
    sensor.good = 0


def write_event(panel, i, what):
    panel.events.append((panel.samples, i, what))


def judge(sensor, near, p, q):
    """Counts a sample for one sensor; gives SHUT_OUT or TRUSTED_AGAIN if it came to that, else None."""
    if sensor.trusted:
        sensor.bad = 0 if near else sensor.bad + 1
        if sensor.bad < p:
            return None
    else:
        sensor.good = sensor.good + 1 if near else 0
        if sensor.good < q:
            return None
    begin_state(sensor, not sensor.trusted)
    return TRUSTED_AGAIN if sensor.trusted else SHUT_OUT


def judge_all(panel, nears):
    for i in unbarred_numbers(panel.sensors):
        what = judge(panel.sensors[i], nears[i], panel.p, panel.q)
        if what is not None:
            write_event(panel, i, what)


def moved(put_out, voted, rate):
    """Where what's put out goes to, given a voted value."""
    if put_out is None or abs(voted - put_out) <= rate:
        return voted
    if voted > put_out:
        return put_out + rate
    return put_out - rate


def follow(panel, voted):
    if voted is None:
        panel.age = panel.age + 1
        return
    panel.last = voted
    panel.age = 0
    panel.put_out = moved(panel.put_out, voted, panel.rate)


def told(number):
    """The two numbers by which an answer tells a value that there may be none of."""
    if number is None:
        return [0, 0]
    return [1, number]


def take_sample(panel, readings):
    """Takes one sample, a reading or None of each sensor, and gives what the call answers."""
    votes = votes_of(panel.sensors, readings)
    voted = middle(votes)
    nears = [is_near(reading, voted, panel.tol) for reading in readings]
    # An event tells how many samples there are with this one, so the count goes first.
    panel.samples = panel.samples + 1
    judge_all(panel, nears)
    follow(panel, voted)
    panel.votes = votes
    near_numbers = [i for i in unbarred_numbers(panel.sensors) if nears[i]]
    return told(voted) + told(panel.put_out) + [len(near_numbers), len(trusted_numbers(panel.sensors))]


def bar(panel, i):
    # The state and the counts are kept, so that what is known of the sensor stays to be seen.
    panel.sensors[i].barred = True
    write_event(panel, i, BARRED)


def free(panel, i):
    # A freed sensor has to earn its trust again, whatever its state was when it was barred.
    panel.sensors[i].barred = False
    begin_state(panel.sensors[i], False)
    write_event(panel, i, FREED)


def samples_to_change(panel, i):
    """Behind how many samples a sensor that isn't barred can be shut out, or trusted again, at the earliest."""
    sensor = panel.sensors[i]
    if sensor.trusted:
        return panel.p - sensor.bad
    return panel.q - sensor.good


def trimmed_mean(numbers, f):
    """The mean, rounded down, without the f least and the f greatest; there are more than 2 f numbers."""
    left = sorted(numbers)[f:len(numbers) - f]
    return sum(left) // len(left)


def how_many_events(panel, what):
    return len([event for event in panel.events if event[2] == what])
