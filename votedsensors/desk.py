"""The calls: read from one list of whole numbers, and answered in another."""

from votedsensors.panel import SHUT_OUT, TRUSTED_AGAIN, Panel, bar, copied, free, how_many_events
from votedsensors.panel import samples_to_change, take_sample, told, trimmed_mean, trusted_numbers

LAY = 0
SAMPLE = 1
WOULD = 2
VALUE = 3
SENSOR = 4
TRUSTED = 5
BAR = 6
FREE = 7
SOONEST = 8
TRIM = 9
LOG = 10
TOTALS = 11

OUT_OF_RANGE = -1
NOTHING_LAID = -2
IS_BARRED = -3
NOT_BARRED = -4
TOO_FEW_VOTES = -5

GREATEST_READING = 1000000000000
GREATEST_STEP = 1000000000
GREATEST_TRIM = 4
GREATEST_EVENT = 100000
EVENTS_AT_ONCE = 50


class UnknownCall(ValueError):
    """A call's number that this program doesn't answer."""


class Desk:
    """Keeps the panel that was laid last; None before the first lay."""

    def __init__(self):
        self.panel = None


def lay_fits(n, tol, p, q, rate):
    if not (3 <= n <= 9 and 0 <= tol <= GREATEST_STEP):
        return False
    return 1 <= p <= 100 and 1 <= q <= 100 and 0 <= rate <= GREATEST_STEP


def lay(desk, numbers):
    n = numbers[0]
    tol = numbers[1]
    p = numbers[2]
    q = numbers[3]
    rate = numbers[4]
    if not lay_fits(n, tol, p, q, rate):
        return [OUT_OF_RANGE]
    desk.panel = Panel(n, tol, p, q, rate)
    return [0]


def reading_fits(mark, reading):
    if mark == 0:
        return reading == 0
    return mark == 1 and -GREATEST_READING <= reading <= GREATEST_READING


def sample_fits(row, n):
    if len(row) != 2 * n:
        return False
    return all([reading_fits(row[2 * i], row[2 * i + 1]) for i in range(n)])


def sample(panel, row):
    n = len(panel.sensors)
    if not sample_fits(row, n):
        return [OUT_OF_RANGE]
    return take_sample(panel, [row[2 * i + 1] if row[2 * i] == 1 else None for i in range(n)])


def value(panel):
    return told(panel.last) + [panel.age] + told(panel.put_out)


def sensor_state(sensor):
    return [1 if sensor.trusted else 0, sensor.bad, sensor.good, 1 if sensor.barred else 0]


def bar_sensor(panel, i):
    if panel.sensors[i].barred:
        return [IS_BARRED]
    bar(panel, i)
    return [1]


def free_sensor(panel, i):
    if not panel.sensors[i].barred:
        return [NOT_BARRED]
    free(panel, i)
    return [1]


def soonest(panel, i):
    if panel.sensors[i].barred:
        return [IS_BARRED]
    return [samples_to_change(panel, i)]


def answer_of_sensor(panel, call, i):
    if not 0 <= i < len(panel.sensors):
        return [OUT_OF_RANGE]
    if call == SENSOR:
        return sensor_state(panel.sensors[i])
    if call == BAR:
        return bar_sensor(panel, i)
    if call == FREE:
        return free_sensor(panel, i)
    return soonest(panel, i)


def trusted_list(panel):
    numbers = trusted_numbers(panel.sensors)
    return [len(numbers)] + numbers


def trim(panel, f):
    if not 0 <= f <= GREATEST_TRIM:
        return [OUT_OF_RANGE]
    if len(panel.votes) < 2 * f + 1:
        return [TOO_FEW_VOTES]
    return [0, trimmed_mean(panel.votes, f)]


def log(panel, k):
    if not 0 <= k <= GREATEST_EVENT:
        return [OUT_OF_RANGE]
    numbers = []
    for event in panel.events[k:k + EVENTS_AT_ONCE]:
        numbers.extend(event)
    return [len(numbers)] + numbers


def totals(panel):
    shut_out = how_many_events(panel, SHUT_OUT)
    trusted_again = how_many_events(panel, TRUSTED_AGAIN)
    return [panel.samples, len(panel.events), shut_out, trusted_again]


def answer_laid(panel, call, numbers):
    if call == SAMPLE:
        return sample(panel, numbers[1:])
    if call == WOULD:
        return sample(copied(panel), numbers[1:])
    if call == VALUE:
        return value(panel)
    if call == TRUSTED:
        return trusted_list(panel)
    if call == TRIM:
        return trim(panel, numbers[0])
    if call == LOG:
        return log(panel, numbers[0])
    if call == TOTALS:
        return totals(panel)
    return answer_of_sensor(panel, call, numbers[0])


def answer_call(desk, call, numbers):
    if call == LAY:
        return lay(desk, numbers)
    if desk.panel is None:
        return [NOTHING_LAID]
    return answer_laid(desk.panel, call, numbers)


def numbers_behind(calls, at):
    """How many numbers belong to the call at this place, behind the call's own."""
    call = calls[at]
    if call == LAY:
        return 5
    if call == SAMPLE or call == WOULD:
        return 1 + calls[at + 1]
    if call in (SENSOR, BAR, FREE, SOONEST, TRIM, LOG):
        return 1
    if call in (VALUE, TRUSTED, TOTALS):
        return 0
    raise UnknownCall(f"call {call} is not known")


def answers(calls):
    """Answers the calls on one new object: for each, how many numbers are answered, then these."""
    desk = Desk()
    given = []
    at = 0
    while at < len(calls):
        end = at + 1 + numbers_behind(calls, at)
        answer = answer_call(desk, calls[at], calls[at + 1:end])
        given.append(len(answer))
        given.extend(answer)
        at = end
    return given
