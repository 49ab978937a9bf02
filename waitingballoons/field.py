"""The calls on one field, from a flat list of numbers to a flat list of answers."""

from waitingballoons.flights import all_down_behind, down_behind, first_beyond_hours, first_too_near
from waitingballoons.flights import is_beyond_hours, landing
from waitingballoons.plans import least_of, plans_that_can_be
from waitingballoons.told import Balloon, Field

MOST_HEIGHTS = 4
MOST_NEAR = 1000
MOST_WAIT = 3
MOST_HOURS = 8
MOST_BALLOONS = 4
MOST_FLIGHT = 5

# Numbers that may be below 0 are handed over with their greatest value added.
WIND_ADDED = 9
PLACE_ADDED = 100

WRONG = -1
NO_BALLOON = -2
TOO_MANY = -5
TOO_NEAR = -6
NO_PLAN = -6
BEYOND_HOURS = -7


def begins(field, told):
    """Answers the call begins."""
    heights = told[0]
    near = told[1]
    longest_wait = told[2]
    if heights < 1 or heights > MOST_HEIGHTS or near > MOST_NEAR or longest_wait > MOST_WAIT:
        return [WRONG]
    field.begin(heights, near, longest_wait)
    return [0]


def hour(field, told):
    """Answers the call hour."""
    if len(told) != 2 * field.heights or max(told) > 2 * WIND_ADDED:
        return [WRONG]
    if len(field.hours) == MOST_HOURS:
        return [TOO_MANY]
    winds = [(told[2 * height] - WIND_ADDED, told[2 * height + 1] - WIND_ADDED) for height in range(field.heights)]
    field.hours.append(winds)
    return [len(field.hours) - 1]


def can_be_flown(field, flight):
    """Whether a flight is no longer than allowed and stays in heights that are there."""
    return len(flight) <= MOST_FLIGHT and all([height < field.heights for height in flight])


def balloon(field, told):
    """Answers the call balloon."""
    flight = told[2:]
    if max(told[0], told[1]) > 2 * PLACE_ADDED or not can_be_flown(field, flight):
        return [WRONG]
    if len(field.balloons) == MOST_BALLOONS:
        return [TOO_MANY]
    field.balloons.append(Balloon(told[0] - PLACE_ADDED, told[1] - PLACE_ADDED, flight))
    return [len(field.balloons) - 1]


def check(field, plan):
    """Answers the call check."""
    if len(plan) != len(field.balloons) or max(plan, default=0) > field.longest_wait:
        return [WRONG]
    beyond = first_beyond_hours(field, plan)
    if beyond is not None:
        return [BEYOND_HOURS, beyond]
    meeting = first_too_near(field, plan)
    if meeting is not None:
        return [TOO_NEAR] + meeting
    answer = [all_down_behind(field, plan)]
    for number, waits in enumerate(plan):
        answer.extend(landing(field, field.balloons[number], waits))
    return answer


def best(field, told):
    """Answers the call best; nothing is told with it."""
    plans = plans_that_can_be(field)
    if len(plans) == 0:
        return [NO_PLAN]
    return least_of(plans, [[sum(plan), all_down_behind(field, plan)] for plan in plans])


def soonest(field, told):
    """Answers the call soonest; nothing is told with it."""
    plans = plans_that_can_be(field)
    if len(plans) == 0:
        return [NO_PLAN]
    return least_of(plans, [[all_down_behind(field, plan), sum(plan)] for plan in plans])


def lands(field, told):
    """Answers the call lands."""
    number = told[0]
    waits = told[1]
    if number >= len(field.balloons):
        return [NO_BALLOON]
    if waits > field.longest_wait:
        return [WRONG]
    asked = field.balloons[number]
    if is_beyond_hours(field, asked, waits):
        return [BEYOND_HOURS]
    return [down_behind(asked, waits)] + landing(field, asked, waits)


# A call's number is its place here.
CALLS = (begins, hour, balloon, check, best, soonest, lands)


def split_calls(calls):
    """The calls one behind another, each as a pair: its number, and its whole numbers."""
    found = []
    at = 0
    while at < len(calls):
        end = at + 2 + calls[at + 1]
        found.append((calls[at], calls[at + 2:end]))
        # No call has lists: one 0, their count, stands behind its whole numbers.
        at = end + 1
    return found


def answers(calls):
    """For each call how many numbers are answered, then these."""
    field = Field()
    given = []
    for number, told in split_calls(calls):
        answer = CALLS[number](field, told)
        given.append(len(answer))
        given.extend(answer)
    return given
