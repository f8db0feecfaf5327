"""Builds lines of calls, and asks them while looking at what every line is promised."""

import contextlib
import io

from votedsensors.desk import answers

SILENT = None


class Unchangeable(list):
    """A list that fails at once when it is changed, even if the change were taken back later."""

    def refuse(self, *args, **kwargs):
        raise AssertionError("what was handed in is changed")

    __setitem__ = __delitem__ = __iadd__ = __imul__ = refuse
    append = clear = extend = insert = pop = remove = reverse = sort = refuse


def lay(n=3, tol=10, p=3, q=2, rate=5):
    return [0, n, tol, p, q, rate]


def row(*readings):
    numbers = []
    for reading in readings:
        numbers += [0, 0] if reading is SILENT else [1, reading]
    return numbers


def sample_row(numbers):
    return [1, len(numbers)] + numbers


def would_row(numbers):
    return [2, len(numbers)] + numbers


def sample(*readings):
    return sample_row(row(*readings))


def would(*readings):
    return would_row(row(*readings))


def value():
    return [3]


def sensor(i):
    return [4, i]


def trusted():
    return [5]


def bar(i):
    return [6, i]


def free(i):
    return [7, i]


def soonest(i):
    return [8, i]


def trim(f):
    return [9, f]


def log(k):
    return [10, k]


def totals():
    return [11]


def look(n):
    """All that the calls value, sensor and trusted show of n sensors."""
    return [value(), trusted()] + [sensor(i) for i in range(n)]


def look_at_all(n):
    """All that any call shows of n sensors without changing them; of the events the first fifty."""
    return look(n) + [soonest(i) for i in range(n)] + [trim(f) for f in range(5)] + [log(0), totals()]


def split(numbers):
    parts = []
    at = 0
    while at < len(numbers):
        end = at + 1 + numbers[at]
        if numbers[at] < 1 or end > len(numbers):
            raise AssertionError(f"a count doesn't fit at {at} of {numbers}")
        parts.append(numbers[at + 1:end])
        at = end
    return parts


def ask(*calls):
    """Gives a list of answers, one for each call."""
    line = [number for call in calls for number in call]
    before = list(line)
    shown = io.StringIO()
    with contextlib.redirect_stdout(shown), contextlib.redirect_stderr(shown):
        first = answers(line)
        second = answers(Unchangeable(before))
    if line != before:
        raise AssertionError("what was handed in is changed")
    if first != second:
        raise AssertionError("a second time answers otherwise")
    if shown.getvalue():
        raise AssertionError("something is printed")
    if type(first) is not list or any(type(number) is not int for number in first):
        raise AssertionError(f"not a list of whole numbers: {first!r}")
    parts = split(first)
    if len(parts) != len(calls):
        raise AssertionError(f"{len(calls)} calls, {len(parts)} answers")
    return parts


def last(*calls):
    return ask(*calls)[-1]
