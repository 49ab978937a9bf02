import unittest

from lines import HUGE, ask, balloon, begins, check, hour, last, stands, wind


class Begins(unittest.TestCase):
    def test_answers_zero(self):
        self.assertEqual(ask(begins(2, 5, 1)), [[0]])

    def test_heights_from_1_to_4(self):
        for heights in (1, 2, 3, 4):
            self.assertEqual(ask(begins(heights, 0, 0)), [[0]])
        for heights in (0, 5, 6, 1000, HUGE):
            self.assertEqual(ask(begins(heights, 0, 0)), [[-1]])

    def test_near_up_to_1000(self):
        for near in (0, 1, 999, 1000):
            self.assertEqual(ask(begins(1, near, 0)), [[0]])
        for near in (1001, 1002, HUGE):
            self.assertEqual(ask(begins(1, near, 0)), [[-1]])

    def test_waiting_up_to_3_hours(self):
        for wait in (0, 1, 2, 3):
            self.assertEqual(ask(begins(1, 0, wait)), [[0]])
        for wait in (4, 5, HUGE):
            self.assertEqual(ask(begins(1, 0, wait)), [[-1]])

    def test_all_wrong_at_once_is_one_refusal(self):
        self.assertEqual(ask(begins(HUGE, HUGE, HUGE)), [[-1]])

    def test_takes_its_heights(self):
        for heights in (1, 2, 3, 4):
            given = ask(begins(heights, 0, 0), hour(*[9] * (2 * heights)),
                        balloon(0, 0, heights - 1), balloon(0, 0, heights))
            self.assertEqual(given, [[0], [0], [0], [-1]])

    def test_takes_its_wait(self):
        for wait in (0, 1, 2, 3):
            given = ask(begins(1, 0, wait), *[hour(9, 9)] * 5, stands(0, 0, 0), check(wait), check(wait + 1))
            self.assertEqual(given[-2:], [[wait + 1, 0, 0], [-1]])

    def test_takes_the_greatest_near(self):
        # Squares of distances: 10 and 30 east and north make 1000, 18 and 26 make 1000, 27 and 16 make 985.
        apart_by = (begins(1, 1000, 0), hour(9, 9), stands(0, 0, 0))
        self.assertEqual(last(*apart_by, stands(10, 30, 0), check(0, 0)), [1, 0, 0, 10, 30])
        self.assertEqual(last(*apart_by, stands(27, 16, 0), check(0, 0)), [-6, 0, 0, 1])

    def test_forgets_hours_and_balloons(self):
        before = (begins(1, 3, 2), wind(1, 1), wind(2, 2), stands(5, 5, 0), stands(50, 5, 0))
        given = ask(*before, begins(1, 3, 2), check(), check(0, 0), stands(0, 0, 0), check(0), wind(3, 4), check(0))
        self.assertEqual(given[5:], [[0], [0], [-1], [0], [-7, 0], [0], [1, 3, 4]])

    def test_again_makes_room_for_8_hours_and_4_balloons(self):
        full = [hour(9, 9)] * 9 + [balloon(0, 0)] * 5
        told = [[number] for number in range(8)] + [[-5]] + [[number] for number in range(4)] + [[-5]]
        self.assertEqual(ask(begins(1, 0, 0), *full, begins(1, 0, 0), *full), [[0]] + told + [[0]] + told)

    def test_again_takes_new_numbers(self):
        given = ask(begins(4, 1000, 3), begins(1, 0, 0), hour(9, 9), stands(0, 0, 0), stands(0, 0, 0),
                    check(0, 0), check(0, 1))
        self.assertEqual(given[2:], [[0], [0], [1], [1, 0, 0, 0, 0], [-1]])

    def test_refused_leaves_all_as_it_was(self):
        before = (begins(2, 4, 1), wind(1, 2, 3, 4), wind(0, 0, 0, 0), stands(0, 0, 0), stands(-3, -3, 1, 0))
        behind = (check(0, 1), check(1, 0), check(0, 0), check(0, 2), balloon(0, 0, 1), balloon(0, 0, 2),
                  hour(9, 9, 9, 9), hour(9, 9))
        plain = ask(*before, *behind)[len(before):]
        self.assertEqual(plain, [[-7, 1], [-6, 1, 0, 1], [2, 1, 2, 0, 1], [-1], [2], [-1], [2], [-1]])
        for refused in (begins(0, 0, 0), begins(5, 0, 0), begins(1, 1001, 0), begins(1, 0, 4), begins(HUGE, 0, 3),
                        begins(1, HUGE, 3), begins(1, 1, HUGE)):
            given = ask(*before, refused, *behind)
            self.assertEqual(given[len(before)], [-1])
            self.assertEqual(given[len(before) + 1:], plain)


class AheadOfAnyBegins(unittest.TestCase):
    def test_no_balloons(self):
        self.assertEqual(ask(check()), [[0]])
        self.assertEqual(ask(check(0)), [[-1]])

    def test_one_height(self):
        self.assertEqual(ask(hour(9, 9)), [[0]])
        self.assertEqual(ask(hour(9, 9, 9, 9)), [[-1]])
        self.assertEqual(ask(hour()), [[-1]])
        self.assertEqual(ask(balloon(100, 100, 0)), [[0]])
        self.assertEqual(ask(balloon(100, 100, 1)), [[-1]])

    def test_no_hours_are_told(self):
        self.assertEqual(ask(stands(4, -4, 0), check(0)), [[0], [-7, 0]])
        self.assertEqual(ask(stands(4, -4), check(0)), [[0], [0, 4, -4]])

    def test_nobody_may_wait(self):
        self.assertEqual(ask(wind(1, 1), wind(1, 1), stands(0, 0, 0), check(1), check(0)),
                         [[0], [1], [0], [-1], [1, 1, 1]])

    def test_nothing_is_too_near(self):
        self.assertEqual(last(wind(1, 1), stands(0, 0, 0), stands(0, 0, 0), check(0, 0)), [1, 1, 1, 1, 1])

    def test_refused_begins_is_as_if_none_was(self):
        self.assertEqual(ask(begins(0, 1000, 3), hour(9, 9), balloon(100, 100, 0), balloon(100, 100, 0),
                             check(0, 0), check(1, 0)), [[-1], [0], [0], [1], [1, 0, 0, 0, 0], [-1]])


if __name__ == "__main__":
    unittest.main()
