"""Writes a line's calls as the flat list that the program takes, and takes its answers apart."""

from waitingballoons.field import answers

HUGE = 4294967295


def call(number, numbers):
    return [number, len(numbers)] + list(numbers) + [0]


def begins(heights, near, wait):
    return call(0, [heights, near, wait])


def hour(*winds):
    return call(1, winds)


def wind(*numbers):
    """An hour by its winds as they blow, from -9 to 9."""
    return hour(*[number + 9 for number in numbers])


def balloon(east, north, *flight):
    return call(2, [east, north] + list(flight))


def stands(east, north, *flight):
    """A balloon by its place as it is, from -100 to 100."""
    return balloon(east + 100, north + 100, *flight)


def check(*plan):
    return call(3, plan)


def best():
    return call(4, [])


def soonest():
    return call(5, [])


def lands(number, waits):
    return call(6, [number, waits])


def line(*calls):
    return [number for one in calls for number in one]


def apart(flat):
    """Answers as one list for each call."""
    found = []
    at = 0
    while at < len(flat):
        end = at + 1 + flat[at]
        if flat[at] < 1 or end > len(flat):
            raise AssertionError(f"no list of answers: {flat}")
        found.append(flat[at + 1:end])
        at = end
    return found


def ask(*calls):
    return apart(answers(line(*calls)))


def last(*calls):
    return ask(*calls)[-1]
