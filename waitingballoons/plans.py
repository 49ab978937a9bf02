"""The plans that can be on a field, and what is told of the least of them by some measure."""

from waitingballoons.flights import first_beyond_hours, first_too_near


def every_plan(field):
    """All plans by which nobody waits longer than anybody may, an earlier one ahead of a later one."""
    plans = [[]]
    for balloon in field.balloons:
        longer = []
        for plan in plans:
            longer.extend([plan + [waits] for waits in range(field.longest_wait + 1)])
        plans = longer
    return plans


def can_be(field, plan):
    """Whether enough hours are told for each balloon, and no two are too near behind any hour."""
    # Ahead of nearness: one that flies beyond the told hours has no wind to be carried by.
    return first_beyond_hours(field, plan) is None and first_too_near(field, plan) is None


def plans_that_can_be(field):
    """The plans that can be, an earlier one ahead of a later one."""
    return [plan for plan in every_plan(field) if can_be(field, plan)]


def least_of(plans, measures):
    """The least measure, how many of the plans have it, and the first of these; the measures stand as the plans do."""
    least = min(measures)
    return least + [measures.count(least)] + plans[measures.index(least)]
