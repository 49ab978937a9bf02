"""How balloons are carried when each waits as a plan tells."""


def down_behind(balloon, waits):
    """Behind how many hours the balloon is down."""
    return waits + len(balloon.flight)


def all_down_behind(field, plan):
    """Behind how many hours all are down: 0 without balloons."""
    return max([down_behind(balloon, waits) for balloon, waits in zip(field.balloons, plan)], default=0)


def air_by_hour(field, balloon, waits):
    """For each hour in which it is in the air: its height, and where it is behind that hour."""
    east = balloon.east
    north = balloon.north
    air = {}
    for step, height in enumerate(balloon.flight):
        hour = waits + step
        wind = field.hours[hour][height]
        east += wind[0]
        north += wind[1]
        air[hour] = (height, east, north)
    return air


def landing(field, balloon, waits):
    """Where the balloon lands: east and north."""
    if len(balloon.flight) == 0:
        return [balloon.east, balloon.north]
    last_hour = down_behind(balloon, waits) - 1
    behind_last = air_by_hour(field, balloon, waits)[last_hour]
    return [behind_last[1], behind_last[2]]


def is_beyond_hours(field, balloon, waits):
    """Whether the balloon waits and flies, together, for more hours than are told."""
    return down_behind(balloon, waits) > len(field.hours)


def first_beyond_hours(field, plan):
    """The first balloon that waits and flies for more hours than are told, or None."""
    for number, balloon in enumerate(field.balloons):
        if is_beyond_hours(field, balloon, plan[number]):
            return number
    return None


def too_near(near, one, other):
    """Whether two are too near behind an hour; None stands for one not in the air in it."""
    if one is None or other is None or one[0] != other[0]:
        return False
    east = one[1] - other[1]
    north = one[2] - other[2]
    return east * east + north * north < near


def first_too_near(field, plan):
    """The first hour behind which two are too near, and these two, or None."""
    airs = [air_by_hour(field, balloon, waits) for balloon, waits in zip(field.balloons, plan)]
    for hour in range(len(field.hours)):
        for lower in range(len(airs)):
            for higher in range(lower + 1, len(airs)):
                if too_near(field.near, airs[lower].get(hour), airs[higher].get(hour)):
                    return [hour, lower, higher]
    return None
