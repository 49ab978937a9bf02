import unittest

from lines import HUGE, ask, balloon, begins, check, hour, last, stands, wind


class PlanThatCanBe(unittest.TestCase):
    def test_without_balloons(self):
        self.assertEqual(last(begins(2, 1000, 3), check()), [0])
        self.assertEqual(last(begins(2, 1000, 3), wind(1, 1, 1, 1), check()), [0])

    def test_is_carried_by_each_hours_wind_in_its_height(self):
        told = (begins(3, 0, 3), wind(1, 0, 2, 0, 3, 0), wind(0, 1, 0, 2, 0, 3), wind(-1, 0, -2, 0, -3, 0),
                wind(0, -4, 0, -5, 0, -6), stands(10, 20, 2, 0))
        self.assertEqual(last(*told, check(0)), [2, 13, 21])
        self.assertEqual(last(*told, check(1)), [3, 9, 23])
        self.assertEqual(last(*told, check(2)), [4, 7, 16])

    def test_lands_below_0(self):
        told = (begins(1, 0, 0), *[hour(0, 0)] * 5, balloon(0, 0, 0, 0, 0, 0, 0))
        self.assertEqual(last(*told, check(0)), [5, -145, -145])

    def test_lands_as_far_as_it_gets(self):
        told = (begins(1, 0, 3), *[hour(18, 18)] * 8, balloon(200, 200, 0, 0, 0, 0, 0))
        self.assertEqual(last(*told, check(3)), [8, 145, 145])

    def test_tells_each_balloon_in_order(self):
        told = (begins(2, 0, 2), wind(1, 2, 3, 4), wind(5, 6, 7, 8), wind(-1, -2, -3, -4),
                stands(0, 0, 0), stands(10, 0, 1, 1), stands(0, 50), stands(-100, 100, 0, 1, 0))
        self.assertEqual(last(*told, check(0, 1, 2, 0)), [3, 1, 2, 14, 4, 0, 50, -93, 108])
        self.assertEqual(last(*told, check(2, 0, 0, 0)), [3, -1, -2, 20, 12, 0, 50, -93, 108])

    def test_all_are_down_when_the_last_one_is(self):
        told = (begins(1, 0, 3), *[hour(9, 9)] * 6, stands(0, 0, 0), stands(0, 0, 0, 0, 0), stands(0, 0))
        self.assertEqual(last(*told, check(0, 0, 0))[0], 3)
        self.assertEqual(last(*told, check(3, 0, 0))[0], 4)
        self.assertEqual(last(*told, check(1, 0, 3))[0], 3)
        self.assertEqual(last(*told, check(2, 3, 0))[0], 6)

    def test_waiting_counts_for_one_without_a_flight(self):
        self.assertEqual(last(begins(1, 0, 3), *[hour(9, 9)] * 3, stands(1, 2), check(3)), [3, 1, 2])

    def test_changes_nothing(self):
        given = ask(begins(1, 4, 1), wind(1, 1), wind(2, 2), stands(0, 0, 0), stands(0, 0, 0),
                    check(0, 1), check(1, 1), check(0, 1), check(2, 0), check(0, 1))
        self.assertEqual(given[5:], [[2, 1, 1, 2, 2], [-6, 1, 0, 1], [2, 1, 1, 2, 2], [-1], [2, 1, 1, 2, 2]])


class WrongPlan(unittest.TestCase):
    def test_a_number_for_each_balloon(self):
        for balloons in range(5):
            for numbers in range(7):
                given = last(*[stands(3, 4)] * balloons, check(*[0] * numbers))
                self.assertEqual(given, [0] + [3, 4] * balloons if numbers == balloons else [-1])

    def test_no_longer_than_anybody_may_wait(self):
        for wait in (0, 1, 2, 3):
            told = (begins(1, 0, wait), *[hour(9, 9)] * 4, stands(0, 0), stands(0, 0), stands(0, 0))
            for longer in (wait + 1, wait + 2, HUGE):
                for plan in ((longer, 0, 0), (0, longer, 0), (0, 0, longer)):
                    self.assertEqual(last(*told, check(*plan)), [-1])
            self.assertEqual(last(*told, check(wait, wait, wait))[0], wait)

    def test_goes_ahead_of_too_few_hours(self):
        told = (begins(1, 0, 1), stands(0, 0, 0), stands(0, 0, 0))
        self.assertEqual(ask(*told, check(0, 2), check(2, 0), check(0), check(0, 0, 0), check(0, 0))[3:],
                         [[-1], [-1], [-1], [-1], [-7, 0]])

    def test_goes_ahead_of_too_near(self):
        told = (begins(1, 1, 0), hour(9, 9), stands(0, 0, 0), stands(0, 0, 0))
        self.assertEqual(ask(*told, check(0, 0), check(0), check(0, 1), check(0, 0, 0))[4:],
                         [[-6, 0, 0, 1], [-1], [-1], [-1]])


class TooFewHours(unittest.TestCase):
    def test_waits_and_flies_together(self):
        told = (begins(1, 0, 3), *[hour(9, 9)] * 4, stands(0, 0, 0, 0, 0))
        self.assertEqual(ask(*told, *[check(waits) for waits in range(4)])[-4:],
                         [[3, 0, 0], [4, 0, 0], [-7, 0], [-7, 0]])

    def test_waiting_alone_needs_hours_too(self):
        told = (begins(1, 0, 3), hour(9, 9), stands(0, 0))
        self.assertEqual(ask(*told, *[check(waits) for waits in range(4)])[-4:],
                         [[0, 0, 0], [1, 0, 0], [-7, 0], [-7, 0]])

    def test_first_balloon_of_several(self):
        told = (begins(1, 0, 2), hour(9, 9), hour(9, 9), stands(0, 0), stands(0, 0, 0), stands(0, 0, 0, 0),
                stands(0, 0, 0))
        for plan, first in (((0, 0, 1, 2), 2), ((0, 2, 1, 2), 1), ((0, 0, 0, 2), 3), ((2, 2, 2, 2), 1)):
            self.assertEqual(last(*told, check(*plan)), [-7, first])

    def test_goes_ahead_of_too_near(self):
        told = (begins(1, 1000, 1), hour(9, 9), hour(9, 9), stands(0, 0, 0), stands(0, 0, 0), stands(0, 0, 0, 0))
        self.assertEqual(last(*told, check(0, 0, 1)), [-7, 2])
        self.assertEqual(last(*told, check(0, 0, 0)), [-6, 0, 0, 1])


class TooNear(unittest.TestCase):
    def test_exactly_as_near_as_told_and_one_less(self):
        for east, north in ((3, 4), (-3, 4), (4, -3), (-5, 0), (0, 5)):
            pair = (hour(9, 9), stands(-1, 2, 0), stands(-1 + east, 2 + north, 0), check(0, 0))
            can_be = [1, -1, 2, -1 + east, 2 + north]
            self.assertEqual(last(begins(1, 24, 0), *pair), can_be)
            self.assertEqual(last(begins(1, 25, 0), *pair), can_be)
            self.assertEqual(last(begins(1, 26, 0), *pair), [-6, 0, 0, 1])

    def test_one_place_is_too_near_from_1_on(self):
        pair = (hour(9, 9), stands(0, 0, 0), stands(0, 0, 0), check(0, 0))
        self.assertEqual(last(begins(1, 0, 0), *pair), [1, 0, 0, 0, 0])
        self.assertEqual(last(begins(1, 1, 0), *pair), [-6, 0, 0, 1])

    def test_not_in_the_air_in_one_hour(self):
        told = (begins(1, 1000, 2), *[hour(9, 9)] * 4, stands(0, 0, 0), stands(0, 0, 0, 0))
        self.assertEqual(last(*told, check(0, 1)), [3, 0, 0, 0, 0])
        self.assertEqual(last(*told, check(2, 0)), [3, 0, 0, 0, 0])
        self.assertEqual(last(*told, check(1, 0)), [-6, 1, 0, 1])
        self.assertEqual(last(*told, check(2, 1)), [-6, 2, 0, 1])

    def test_one_that_has_not_flown_is_near_to_nobody(self):
        told = (begins(1, 1000, 1), hour(9, 9), hour(9, 9), stands(0, 0), stands(0, 0, 0), stands(0, 0))
        self.assertEqual(last(*told, check(0, 0, 0)), [1, 0, 0, 0, 0, 0, 0])
        self.assertEqual(last(*told, check(1, 1, 0)), [2, 0, 0, 0, 0, 0, 0])

    def test_different_heights_at_one_place(self):
        told = (begins(2, 1000, 0), hour(9, 9, 9, 9), stands(0, 0, 0), stands(0, 0, 1))
        self.assertEqual(last(*told, check(0, 0)), [1, 0, 0, 0, 0])

    def test_heights_hour_by_hour(self):
        told = (begins(3, 1000, 1), *[hour(9, 9, 9, 9, 9, 9)] * 4, stands(0, 0, 0, 1, 2), stands(0, 0, 1, 0, 2))
        self.assertEqual(last(*told, check(0, 0)), [-6, 2, 0, 1])
        self.assertEqual(last(*told, check(1, 0)), [-6, 1, 0, 1])
        self.assertEqual(last(*told, check(0, 1)), [-6, 1, 0, 1])

    def test_where_they_are_behind_the_hour_counts(self):
        # Near as they stand, apart behind the hour: one has been carried away an hour ahead.
        self.assertEqual(last(begins(1, 9, 1), wind(9, 0), wind(-9, 0), stands(0, 0, 0, 0), stands(0, 0, 0),
                              check(0, 1)), [2, 0, 0, -9, 0])
        # Apart as they stand, near behind the hour: both come to one place out of different heights.
        self.assertEqual(last(begins(2, 9, 0), wind(4, 0, -4, 0), wind(0, 0, 0, 0), stands(0, 0, 0, 0),
                              stands(8, 0, 1, 0), check(0, 0)), [-6, 1, 0, 1])

    def test_first_hour_goes_ahead_of_first_pair(self):
        told = (begins(1, 2, 2), *[hour(9, 9)] * 4, stands(0, 0, 0), stands(50, 0, 0), stands(0, 0, 0),
                stands(50, 0, 0, 0))
        self.assertEqual(last(*told, check(2, 1, 2, 0)), [-6, 1, 1, 3])
        self.assertEqual(last(*told, check(0, 1, 0, 0)), [-6, 0, 0, 2])

    def test_first_pair_by_the_lower_number_then_by_the_other(self):
        here, there = (0, 0), (90, 90)
        cases = (
            ((here, here, here, here), [0, 1]),
            ((here, there, here, here), [0, 2]),
            ((here, there, there, here), [0, 3]),
            ((here, there, there, there), [1, 2]),
            ((here, there, (0, 90), there), [1, 3]),
            ((here, there, (0, 90), (0, 90)), [2, 3]),
            ((here, here, there, there), [0, 1]),
        )
        for places, pair in cases:
            told = [stands(east, north, 0) for east, north in places]
            self.assertEqual(last(begins(1, 1, 0), hour(9, 9), *told, check(0, 0, 0, 0)), [-6, 0] + pair)

    def test_only_hours_of_the_plan_count(self):
        told = (begins(1, 16, 3), wind(5, 0), wind(0, 0), wind(0, 0), wind(0, 0), stands(0, 0, 0), stands(0, 0, 0))
        self.assertEqual(ask(*told, check(0, 0), check(0, 1), check(3, 2), check(3, 3))[-4:],
                         [[-6, 0, 0, 1], [2, 5, 0, 0, 0], [4, 0, 0, 0, 0], [-6, 3, 0, 1]])


if __name__ == "__main__":
    unittest.main()
