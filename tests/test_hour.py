import unittest

from lines import HUGE, ask, balloon, begins, check, hour, last, stands, wind


class Hour(unittest.TestCase):
    def test_answers_its_number_from_0_on(self):
        self.assertEqual(ask(begins(1, 0, 0), *[hour(9, 9)] * 8), [[0]] + [[number] for number in range(8)])

    def test_two_numbers_for_each_height(self):
        for heights in (1, 2, 3, 4):
            for count in range(11):
                fits = count == 2 * heights
                self.assertEqual(last(begins(heights, 0, 0), hour(*[9] * count)), [0] if fits else [-1])

    def test_numbers_up_to_18(self):
        for heights in (1, 2, 3, 4):
            for place in range(2 * heights):
                for number, answer in ((0, 0), (18, 0), (19, -1), (HUGE, -1)):
                    winds = [9] * (2 * heights)
                    winds[place] = number
                    self.assertEqual(last(begins(heights, 0, 0), hour(*winds)), [answer])

    def test_ninth_is_one_too_many(self):
        given = ask(begins(2, 0, 0), *[hour(9, 9, 9, 9)] * 11)
        self.assertEqual(given[9:], [[-5], [-5], [-5]])

    def test_wrong_goes_ahead_of_too_many(self):
        full = [begins(2, 0, 0)] + [hour(9, 9, 9, 9)] * 8
        for wrong in (hour(), hour(9, 9), hour(9, 9, 9), hour(9, 9, 9, 9, 9), hour(19, 9, 9, 9), hour(9, 9, 9, HUGE)):
            self.assertEqual(last(*full, wrong), [-1])
        self.assertEqual(last(*full, hour(9, 9, 9, 9)), [-5])

    def test_refused_tells_no_hour(self):
        given = ask(begins(1, 0, 0), hour(19, 9), hour(9), hour(9, 9, 9, 9), stands(0, 0, 0), check(0),
                    hour(11, 12), check(0))
        self.assertEqual(given, [[0], [-1], [-1], [-1], [0], [-7, 0], [0], [1, 2, 3]])

    def test_too_many_changes_no_hour(self):
        hours = [wind(number, -number) for number in range(8)]
        told = (begins(1, 0, 3), *hours, wind(9, 9), stands(0, 0, 0, 0, 0, 0, 0), check(3), check(0))
        self.assertEqual(ask(*told)[9:], [[-5], [0], [8, 25, -25], [5, 10, -10]])

    def test_winds_blow_height_by_height(self):
        told = (begins(4, 0, 0), hour(0, 1, 17, 18, 9, 10, 8, 9))
        carried = [(-9, -8), (8, 9), (0, 1), (-1, 0)]
        for height, (east, north) in enumerate(carried):
            self.assertEqual(last(*told, stands(20, 40, height), check(0)), [1, 20 + east, 40 + north])

    def test_told_behind_the_balloons(self):
        self.assertEqual(ask(balloon(100, 100, 0, 0), wind(1, 0), check(0), wind(0, 1), check(0)),
                         [[0], [0], [-7, 0], [1], [2, 1, 1]])


if __name__ == "__main__":
    unittest.main()
