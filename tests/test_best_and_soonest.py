import itertools
import unittest

from lines import ask, begins, best, check, hour, last, soonest, stands, wind

STILL = hour(9, 9)
STILL_TWICE = hour(9, 9, 9, 9)

# Waiting for 1 hour, the long one lets the short one go first; waiting for 2, the short one keeps the long one's end.
LONG_AND_SHORT = (stands(0, 0, 0, 0, 1, 1, 1), stands(0, 0, 0))

# All four in one place, a flight of one hour each: no two may be let go in the same hour.
FOUR_IN_ONE_PLACE = (stands(0, 0, 0),) * 4


class Best(unittest.TestCase):
    def test_nobody_waits_where_nothing_is_near(self):
        told = (begins(1, 25, 3), *[STILL] * 8, stands(0, 0, 0), stands(5, 0, 0, 0, 0), stands(0, 5, 0, 0))
        self.assertEqual(last(*told, best()), [0, 3, 1, 0, 0, 0])

    def test_exactly_as_near_as_told_and_one_less(self):
        told = (*[STILL] * 4, stands(0, 0, 0), stands(3, 4, 0), best())
        self.assertEqual(last(begins(1, 25, 1), *told), [0, 1, 1, 0, 0])
        self.assertEqual(last(begins(1, 26, 1), *told), [1, 2, 2, 0, 1])

    def test_waits_the_least_though_all_are_down_later(self):
        told = (begins(2, 1, 3), *[STILL_TWICE] * 8)
        self.assertEqual(last(*told, *LONG_AND_SHORT, best()), [1, 6, 1, 1, 0])
        self.assertEqual(last(*told, *reversed(LONG_AND_SHORT), best()), [1, 6, 1, 0, 1])

    def test_told_hours_rule_out_what_would_wait_less(self):
        told = (*[STILL_TWICE] * 5, *LONG_AND_SHORT, best())
        self.assertEqual(last(begins(2, 1, 3), *told), [2, 5, 1, 0, 2])
        self.assertEqual(last(begins(2, 1, 1), *told), [-6])

    def test_of_as_little_waiting_all_are_down_the_soonest(self):
        # (0, 1) is earlier and waits for 1 hour too, but all are down an hour later by it.
        told = (begins(2, 1, 3), *[STILL_TWICE] * 4, stands(0, 0, 0), stands(0, 0, 0, 1))
        given = ask(*told, best(), check(0, 1), check(1, 0))
        self.assertEqual(given[-3:], [[1, 2, 1, 1, 0], [3, 0, 0, 0, 0], [2, 0, 0, 0, 0]])

    def test_earliest_of_several_as_good(self):
        told = (begins(1, 1, 3), *[STILL] * 8)
        self.assertEqual(last(*told, *FOUR_IN_ONE_PLACE[:2], best()), [1, 2, 2, 0, 1])
        self.assertEqual(last(*told, *FOUR_IN_ONE_PLACE[:3], best()), [3, 3, 6, 0, 1, 2])

    def test_less_waiting_goes_ahead_of_earlier(self):
        # (0, 1, 1) and (1, 0, 0) both part the one in the middle from the two beside it.
        told = (begins(1, 10, 1), STILL, STILL, stands(0, 0, 0), stands(-3, 0, 0), stands(3, 0, 0))
        self.assertEqual(last(*told, best()), [1, 2, 1, 1, 0, 0])

    def test_earliest_goes_by_the_first_balloon_that_differs(self):
        # Two pairs far from one another, one within the other: of each of them one waits.
        pairs = (stands(0, 0, 0), stands(90, 0, 0), stands(90, 0, 0), stands(0, 0, 0))
        self.assertEqual(last(begins(1, 10, 1), STILL, STILL, *pairs, best()), [2, 2, 4, 0, 0, 1, 1])

    def test_as_good_are_counted_only_among_those_that_can_be(self):
        # Where the third is beside the second in hour 1, the second can't wait for an hour, though the first can.
        told = (begins(2, 2, 1), STILL_TWICE, STILL_TWICE, stands(0, 0, 0), stands(1, 0, 0))
        self.assertEqual(last(*told, stands(2, 0, 1, 0), best()), [1, 2, 1, 1, 0, 0])
        self.assertEqual(last(*told, stands(-1, 0, 1, 0), best()), [1, 2, 1, 0, 1, 0])
        self.assertEqual(last(*told, stands(3, 0, 1, 0), best()), [1, 2, 2, 0, 1, 0])

    def test_four_balloons_with_three_hours_of_waiting(self):
        told = (begins(1, 1, 3), *[STILL] * 8)
        self.assertEqual(last(*told, *FOUR_IN_ONE_PLACE, best()), [6, 4, 24, 0, 1, 2, 3])

    def test_as_many_plans_as_there_can_be(self):
        # Without nearness only one plan has nobody waiting, among 256 that can be.
        told = (begins(1, 0, 3), *[STILL] * 8, *[stands(0, 0, 0, 0, 0, 0, 0)] * 4)
        self.assertEqual(ask(*told, best(), check(3, 3, 3, 3))[-2:], [[0, 5, 1, 0, 0, 0, 0], [8] + [0] * 8])

    def test_by_its_plan_check_answers_the_same(self):
        told = (begins(1, 5, 3), *[wind(east, 2 - east) for east in (1, -1, 3, 2, 0, 1, -2, 4)],
                stands(0, 0, 0, 0), stands(1, 1, 0, 0), stands(2, 0, 0, 0, 0), stands(-1, 0, 0))
        for asked, waits_at, down_at in ((best(), 0, 1), (soonest(), 1, 0)):
            answer = last(*told, asked)
            plan = answer[3:]
            self.assertEqual(answer[waits_at], sum(plan))
            self.assertEqual(last(*told, check(*plan))[0], answer[down_at])


class Soonest(unittest.TestCase):
    def test_nobody_waits_where_nothing_is_near(self):
        told = (begins(1, 25, 3), *[STILL] * 8, stands(0, 0, 0), stands(5, 0, 0, 0, 0), stands(0, 5, 0, 0))
        self.assertEqual(last(*told, soonest()), [3, 0, 1, 0, 0, 0])

    def test_all_are_down_the_soonest_though_more_is_waited(self):
        told = (begins(2, 1, 3), *[STILL_TWICE] * 8)
        self.assertEqual(last(*told, *LONG_AND_SHORT, soonest()), [5, 2, 1, 0, 2])
        self.assertEqual(last(*told, *reversed(LONG_AND_SHORT), soonest()), [5, 2, 1, 2, 0])

    def test_no_longer_than_anybody_may_wait(self):
        told = (*[STILL_TWICE] * 8, *LONG_AND_SHORT, soonest())
        self.assertEqual(last(begins(2, 1, 2), *told), [5, 2, 1, 0, 2])
        self.assertEqual(last(begins(2, 1, 1), *told), [6, 1, 1, 1, 0])
        self.assertEqual(last(begins(2, 1, 0), *told), [-6])

    def test_of_as_soon_ones_the_least_is_waited(self):
        # (0, 1, 0) brings the second to the third in hour 1. (0, 2, 0) is earlier than (1, 0, 0), but waits longer.
        told = (begins(2, 101, 3), *[STILL_TWICE] * 8, stands(0, 0, 0), stands(10, 0, 0), stands(20, 0, 1, 0, 1))
        given = ask(*told, soonest(), check(0, 1, 0), check(0, 2, 0), check(1, 0, 0))
        self.assertEqual(given[-4:], [[3, 1, 1, 1, 0, 0], [-6, 1, 1, 2],
                                      [3, 0, 0, 10, 0, 20, 0], [3, 0, 0, 10, 0, 20, 0]])

    def test_earliest_of_several_as_good(self):
        told = (begins(1, 1, 3), *[STILL] * 8)
        self.assertEqual(last(*told, *FOUR_IN_ONE_PLACE[:2], soonest()), [2, 1, 2, 0, 1])
        self.assertEqual(last(*told, *FOUR_IN_ONE_PLACE[:3], soonest()), [3, 3, 6, 0, 1, 2])

    def test_one_that_is_down_early_may_wait_for_nothing(self):
        # Many plans are as soon for the sake of the long one; only the one without waiting is as good.
        told = (begins(1, 1, 3), *[STILL] * 8, stands(0, 0, 0, 0, 0, 0, 0), stands(50, 0, 0), stands(0, 50))
        self.assertEqual(last(*told, soonest()), [5, 0, 1, 0, 0, 0])

    def test_four_balloons_with_three_hours_of_waiting(self):
        told = (begins(1, 1, 3), *[STILL] * 8)
        self.assertEqual(last(*told, *FOUR_IN_ONE_PLACE, soonest()), [4, 6, 24, 0, 1, 2, 3])


class BestAndSoonest(unittest.TestCase):
    def test_without_balloons(self):
        self.assertEqual(ask(best(), soonest()), [[0, 0, 1], [0, 0, 1]])
        self.assertEqual(ask(begins(4, 1000, 3), *[hour(*[9] * 8)] * 8, best(), soonest())[-2:],
                         [[0, 0, 1], [0, 0, 1]])

    def test_balloons_without_a_flight(self):
        for wait in (0, 3):
            for balloons in (1, 2, 3, 4):
                for hours in (0, 1, 8):
                    told = (begins(1, 1000, wait), *[STILL] * hours, *[stands(0, 0)] * balloons)
                    self.assertEqual(ask(*told, best(), soonest())[-2:], [[0, 0, 1] + [0] * balloons] * 2)

    def test_one_without_a_flight_beside_one_that_flies(self):
        told = (begins(1, 1000, 3), *[STILL] * 8, stands(0, 0), stands(0, 0, 0, 0), stands(0, 0))
        self.assertEqual(ask(*told, best(), soonest())[-2:], [[0, 2, 1, 0, 0, 0], [2, 0, 1, 0, 0, 0]])

    def test_no_plan_can_be_for_want_of_told_hours(self):
        for hours in range(4):
            told = (begins(1, 0, 3), *[STILL] * hours, stands(0, 0), stands(0, 0, 0, 0, 0))
            wanted = [[0, 3, 1, 0, 0], [3, 0, 1, 0, 0]] if hours == 3 else [[-6], [-6]]
            self.assertEqual(ask(*told, best(), soonest())[-2:], wanted)

    def test_no_plan_can_be_for_nearness(self):
        told = (begins(1, 1, 0), STILL, stands(0, 0, 0), stands(0, 0, 0))
        self.assertEqual(ask(*told, best(), soonest())[-2:], [[-6], [-6]])
        # Flights of 2 hours in one place: three would have to be let go in hours 0, 2 and 4, one waiting for too long.
        told = (begins(1, 1, 3), *[STILL] * 8, *[stands(0, 0, 0, 0)] * 2)
        self.assertEqual(ask(*told, best(), soonest())[-2:], [[2, 4, 2, 0, 2], [4, 2, 2, 0, 2]])
        self.assertEqual(ask(*told, stands(0, 0, 0, 0), best(), soonest())[-2:], [[-6], [-6]])
        self.assertEqual(ask(*told, *[stands(0, 0, 0, 0)] * 2, best(), soonest())[-2:], [[-6], [-6]])

    def test_no_plan_can_be_for_both_together(self):
        for hours in range(5):
            told = (begins(1, 1, 3), *[STILL] * hours, *FOUR_IN_ONE_PLACE)
            wanted = [[6, 4, 24, 0, 1, 2, 3], [4, 6, 24, 0, 1, 2, 3]] if hours == 4 else [[-6], [-6]]
            self.assertEqual(ask(*told, best(), soonest())[-2:], wanted)

    def test_are_not_told_of_plans_beyond_the_told_hours(self):
        # Three hours of waiting are allowed, but with the two told hours nobody can wait for more than one.
        told = (begins(1, 1, 3), STILL, STILL, *FOUR_IN_ONE_PLACE[:2])
        self.assertEqual(ask(*told, best(), soonest())[-2:], [[1, 2, 2, 0, 1], [2, 1, 2, 0, 1]])

    def test_change_nothing(self):
        told = (begins(2, 1, 3), *[STILL_TWICE] * 7, *LONG_AND_SHORT)
        behind = (check(0, 0), check(1, 0), check(0, 2), check(0, 4), check(0), STILL_TWICE, STILL_TWICE,
                  stands(1, 2, 1), check(0, 2, 0), check(0, 2))
        plain = ask(*told, *behind)[len(told):]
        given = ask(*told, best(), soonest(), best(), soonest(), *behind, best(), soonest())
        self.assertEqual(given[len(told):len(told) + 4], [[1, 6, 1, 1, 0], [5, 2, 1, 0, 2]] * 2)
        self.assertEqual(given[len(told) + 4:-2], plain)
        self.assertEqual(given[-2:], [[1, 6, 1, 1, 0, 0], [5, 2, 1, 0, 2, 0]])

    def test_refused_change_nothing(self):
        told = (begins(1, 1, 3), stands(0, 0, 0), stands(0, 0, 0))
        given = ask(*told, best(), soonest(), STILL, best(), STILL, best(), soonest(), check(0, 1))
        self.assertEqual(given[3:], [[-6], [-6], [0], [-6], [1], [1, 2, 2, 0, 1], [2, 1, 2, 0, 1],
                                     [2, 0, 0, 0, 0]])

    def test_told_of_the_field_as_it_now_is(self):
        given = ask(begins(1, 1, 1), STILL, STILL, stands(0, 0, 0), best(), stands(0, 0, 0), best(),
                    begins(1, 0, 1), best(), STILL, stands(0, 0, 0), stands(0, 0, 0), soonest())
        self.assertEqual([given[4], given[6], given[8], given[12]],
                         [[0, 1, 1, 0], [1, 2, 2, 0, 1], [0, 0, 1], [1, 0, 1, 0, 0]])

    def test_all_plans_checked_one_by_one(self):
        # The line's own check tells which plans can be; best and soonest are held against all 64 of them.
        told = (begins(2, 20, 3), *[wind(east, 1, -east, 2) for east in (1, -2, 4, 2, -3, 0, 5)],
                stands(0, 0, 0, 1, 0), stands(2, 0, 0, 0, 0, 0), stands(-2, 0, 1, 0))
        plans = list(itertools.product(range(4), repeat=3))
        checked = []
        for start in (0, 24, 48):
            part = plans[start:start + 24]
            checked += zip(part, ask(*told, *[check(*plan) for plan in part])[-len(part):])
        can_be = [(answer[0], sum(plan), plan) for plan, answer in checked if answer[0] >= 0]
        self.assertTrue(1 < len(can_be) < 64)
        by_best = sorted((waits, down, plan) for down, waits, plan in can_be)
        for measured, asked in ((by_best, best()), (sorted(can_be), soonest())):
            as_good = [one for one in measured if one[:2] == measured[0][:2]]
            self.assertEqual(last(*told, asked), [*measured[0][:2], len(as_good), *measured[0][2]])


if __name__ == "__main__":
    unittest.main()
