"""What is told of one field: its heights, the winds of its hours, its balloons."""


class Balloon:
    """Where one balloon stands, and the heights of its flight, one behind another."""

    def __init__(self, east, north, flight):
        self.east = east
        self.north = north
        self.flight = flight


class Field:
    """One field; an hour is a list of winds, for each height one pair (east, north)."""

    def __init__(self):
        self.begin(1, 0, 0)

    def begin(self, heights, near, longest_wait):
        """Takes the field's three numbers and forgets all hours and balloons."""
        self.heights = heights
        self.near = near
        self.longest_wait = longest_wait
        self.hours = []
        self.balloons = []
