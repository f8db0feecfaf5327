"""The calls: read from one list of whole numbers, and answered in another."""

from votedsensors.panel import Panel, copied, take_sample, told, trusted_numbers

LAY = 0
SAMPLE = 1
WOULD = 2
VALUE = 3
SENSOR = 4
TRUSTED = 5

OUT_OF_RANGE = -1
NOTHING_LAID = -2

GREATEST_READING = 1000000000000
GREATEST_STEP = 1000000000


class UnknownCall(ValueError):
    """A call's number that this program doesn't answer."""


class Desk:
    """Keeps the panel that was laid last; None before the first lay."""

    def __init__(self):
        self.panel = None


def lay_fits(n, tol, p, q, rate):
    if not (3 <= n <= 9 and 0 <= tol <= GREATEST_STEP):
        return False
    return 1 <= p <= 100 and 1 <= q <= 100 and 0 <= rate <= GREATEST_STEP


def lay(desk, numbers):
    n = numbers[0]
    tol = numbers[1]
    p = numbers[2]
    q = numbers[3]
    rate = numbers[4]
    if not lay_fits(n, tol, p, q, rate):
        return [OUT_OF_RANGE]
    desk.panel = Panel(n, tol, p, q, rate)
    return [0]


def reading_fits(mark, reading):
    if mark == 0:
        return reading == 0
    return mark == 1 and -GREATEST_READING <= reading <= GREATEST_READING


def sample_fits(row, n):
    if len(row) != 2 * n:
        return False
    return all([reading_fits(row[2 * i], row[2 * i + 1]) for i in range(n)])


def sample(panel, row):
    n = len(panel.sensors)
    if not sample_fits(row, n):
        return [OUT_OF_RANGE]
    return take_sample(panel, [row[2 * i + 1] if row[2 * i] == 1 else None for i in range(n)])


def value(panel):
    return told(panel.last) + [panel.age] + told(panel.put_out)


def sensor_state(panel, i):
    if not 0 <= i < len(panel.sensors):
        return [OUT_OF_RANGE]
    sensor = panel.sensors[i]
    return [1 if sensor.trusted else 0, sensor.bad, sensor.good, 1 if sensor.barred else 0]


def trusted_list(panel):
    numbers = trusted_numbers(panel.sensors)
    return [len(numbers)] + numbers


def answer_laid(panel, call, numbers):
    if call == SAMPLE:
        return sample(panel, numbers[1:])
    if call == WOULD:
        return sample(copied(panel), numbers[1:])
    if call == VALUE:
        return value(panel)
    if call == SENSOR:
        return sensor_state(panel, numbers[0])
    return trusted_list(panel)


def answer_call(desk, call, numbers):
    if call == LAY:
        return lay(desk, numbers)
    if desk.panel is None:
        return [NOTHING_LAID]
    return answer_laid(desk.panel, call, numbers)


def numbers_behind(calls, at):
    """How many numbers belong to the call at this place, behind the call's own."""
    call = calls[at]
    if call == LAY:
        return 5
    if call == SAMPLE or call == WOULD:
        return 1 + calls[at + 1]
    if call == SENSOR:
        return 1
    if call == VALUE or call == TRUSTED:
        return 0
    raise UnknownCall(f"call {call} is not known")


def answers(calls):
    """Answers the calls on one new object: for each, how many numbers are answered, then these."""
    desk = Desk()
    given = []
    at = 0
    while at < len(calls):
        end = at + 1 + numbers_behind(calls, at)
        answer = answer_call(desk, calls[at], calls[at + 1:end])
        given.append(len(answer))
        given.extend(answer)
        at = end
    return given
