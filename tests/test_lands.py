import unittest

from lines import HUGE, ask, balloon, begins, check, hour, lands, last, stands, wind

STILL = hour(9, 9)


class Lands(unittest.TestCase):
    def test_is_carried_by_each_hours_wind_in_its_height(self):
        told = (begins(3, 0, 3), wind(1, 0, 2, 0, 3, 0), wind(0, 1, 0, 2, 0, 3), wind(-1, 0, -2, 0, -3, 0),
                wind(0, -4, 0, -5, 0, -6), stands(10, 20, 2, 0))
        self.assertEqual(ask(*told, lands(0, 0), lands(0, 1), lands(0, 2))[-3:],
                         [[2, 13, 21], [3, 9, 23], [4, 7, 16]])

    def test_each_balloon_by_its_number(self):
        told = (begins(2, 0, 1), wind(1, 2, 3, 4), wind(5, 6, 7, 8), wind(-1, -2, -3, -4),
                stands(0, 0, 0), stands(10, 0, 1, 1), stands(0, 50), stands(-100, 100, 0, 1, 0))
        self.assertEqual(ask(*told, *[lands(number, 0) for number in range(4)])[-4:],
                         [[1, 1, 2], [2, 20, 12], [0, 0, 50], [3, -93, 108]])
        self.assertEqual(ask(*told, *[lands(number, 1) for number in range(4)])[-4:],
                         [[2, 5, 6], [3, 14, 4], [1, 0, 50], [-7]])

    def test_lands_below_0(self):
        told = (begins(1, 0, 3), *[hour(0, 0)] * 8, balloon(0, 0, 0, 0, 0, 0, 0), stands(1, 20, 0))
        self.assertEqual(ask(*told, lands(0, 0), lands(0, 3), lands(1, 2))[-3:],
                         [[5, -145, -145], [8, -145, -145], [3, -8, 11]])

    def test_lands_as_far_as_it_gets(self):
        told = (begins(1, 0, 3), *[hour(18, 18)] * 8, balloon(200, 200, 0, 0, 0, 0, 0))
        self.assertEqual(last(*told, lands(0, 3)), [8, 145, 145])

    def test_without_a_flight(self):
        told = (begins(1, 0, 3), wind(5, 5), wind(5, 5), stands(-3, 4))
        self.assertEqual(ask(*told, *[lands(0, waits) for waits in range(4)])[-4:],
                         [[0, -3, 4], [1, -3, 4], [2, -3, 4], [-7]])
        self.assertEqual(last(stands(-3, 4), lands(0, 0)), [0, -3, 4])

    def test_whoever_is_near(self):
        told = (begins(1, 1000, 1), wind(1, -1), wind(-2, 3), *[stands(0, 0, 0)] * 4)
        given = ask(*told, check(0, 0, 0, 0), *[lands(number, 0) for number in range(4)], lands(2, 1))
        self.assertEqual(given[-6:], [[-6, 0, 0, 1], [1, 1, -1], [1, 1, -1], [1, 1, -1], [1, 1, -1], [2, -2, 3]])

    def test_whoever_flies_beyond_the_told_hours(self):
        told = (begins(1, 0, 1), wind(1, 2), stands(0, 0, 0, 0), stands(0, 0, 0))
        self.assertEqual(ask(*told, check(0, 0), lands(0, 0), lands(1, 0))[-3:], [[-7, 0], [-7], [1, 1, 2]])

    def test_changes_nothing(self):
        told = (begins(1, 4, 1), wind(1, 1), wind(2, 2), stands(0, 0, 0), stands(0, 0, 0))
        behind = (check(0, 1), check(1, 1), check(1, 0), check(0, 2), check(0), wind(3, 3), stands(9, 9, 0),
                  check(0, 1, 1))
        plain = ask(*told, *behind)[len(told):]
        given = ask(*told, lands(0, 1), lands(1, 0), lands(0, 1), lands(4, 0), lands(0, 2), *behind)
        self.assertEqual(given[len(told):len(told) + 5], [[2, 2, 2], [1, 1, 1], [2, 2, 2], [-2], [-1]])
        self.assertEqual(given[len(told) + 5:], plain)

    def test_told_of_the_field_as_it_now_is(self):
        given = ask(lands(0, 0), stands(1, 1, 0), lands(0, 0), wind(2, 3), lands(0, 0), begins(1, 0, 0), lands(0, 0))
        self.assertEqual(given, [[-2], [0], [-7], [0], [1, 3, 4], [0], [-2]])


class Refused(unittest.TestCase):
    def test_no_such_balloon(self):
        for balloons in range(5):
            told = (begins(1, 0, 0), STILL, *[stands(0, 0, 0)] * balloons)
            for number in (0, 1, 2, 3, 4, 5, HUGE):
                self.assertEqual(last(*told, lands(number, 0)), [1, 0, 0] if number < balloons else [-2])

    def test_longer_than_anybody_may_wait(self):
        for wait in (0, 1, 2, 3):
            told = (begins(1, 0, wait), *[STILL] * 8, stands(0, 0, 0))
            for waits in (0, 1, 2, 3, 4, HUGE):
                self.assertEqual(last(*told, lands(0, waits)), [waits + 1, 0, 0] if waits <= wait else [-1])

    def test_too_few_hours_for_waiting_and_flight_together(self):
        told = (begins(1, 0, 3), *[STILL] * 4, stands(0, 0, 0, 0, 0))
        self.assertEqual(ask(*told, *[lands(0, waits) for waits in range(4)])[-4:],
                         [[3, 0, 0], [4, 0, 0], [-7], [-7]])

    def test_no_such_balloon_goes_ahead_of_longer_waiting(self):
        told = (begins(1, 0, 1), *[STILL] * 8, stands(0, 0, 0))
        self.assertEqual(ask(*told, lands(1, 2), lands(HUGE, HUGE), lands(0, 2))[-3:], [[-2], [-2], [-1]])

    def test_no_such_balloon_goes_ahead_of_too_few_hours(self):
        told = (begins(1, 0, 1), stands(0, 0, 0))
        self.assertEqual(ask(*told, lands(1, 1), lands(0, 1))[-2:], [[-2], [-7]])

    def test_longer_waiting_goes_ahead_of_too_few_hours(self):
        told = (begins(1, 0, 1), stands(0, 0, 0))
        self.assertEqual(ask(*told, lands(0, 2), lands(0, HUGE), lands(0, 1), lands(0, 0))[-4:],
                         [[-1], [-1], [-7], [-7]])

    def test_all_three_at_once(self):
        self.assertEqual(ask(lands(0, 1), lands(0, HUGE)), [[-2], [-2]])


if __name__ == "__main__":
    unittest.main()
