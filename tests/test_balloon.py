import unittest

from lines import HUGE, ask, balloon, begins, check, hour, last, stands


class Balloon(unittest.TestCase):
    def test_answers_its_number_from_0_on(self):
        self.assertEqual(ask(*[balloon(100, 100, 0)] * 4), [[0], [1], [2], [3]])

    def test_place_up_to_200(self):
        for number, answer in ((0, 0), (1, 0), (200, 0), (201, -1), (HUGE, -1)):
            self.assertEqual(ask(balloon(number, 100)), [[answer]])
            self.assertEqual(ask(balloon(100, number)), [[answer]])
            self.assertEqual(ask(balloon(number, number)), [[answer]])

    def test_place_is_told_with_100_added(self):
        for east, north in ((0, 200), (200, 0), (100, 100), (99, 101)):
            self.assertEqual(last(balloon(east, north), check(0)), [0, east - 100, north - 100])

    def test_up_to_5_heights(self):
        for count in range(9):
            self.assertEqual(ask(balloon(100, 100, *[0] * count)), [[0] if count <= 5 else [-1]])

    def test_heights_that_are_there(self):
        for heights in (1, 2, 3, 4):
            for height in (0, 1, 2, 3, 4, 5, 9, HUGE):
                answer = [0] if height < heights else [-1]
                self.assertEqual(last(begins(heights, 0, 0), balloon(100, 100, height)), answer)
                self.assertEqual(last(begins(heights, 0, 0), balloon(100, 100, 0, 0, 0, 0, height)), answer)
                self.assertEqual(last(begins(heights, 0, 0), balloon(100, 100, height, 0, 0)), answer)

    def test_flight_may_be_longer_than_the_hours(self):
        self.assertEqual(ask(hour(9, 9), balloon(100, 100, 0, 0, 0, 0, 0)), [[0], [0]])

    def test_fifth_is_one_too_many(self):
        self.assertEqual(ask(*[balloon(100, 100)] * 6), [[0], [1], [2], [3], [-5], [-5]])

    def test_wrong_goes_ahead_of_too_many(self):
        full = [balloon(100, 100)] * 4
        for wrong in (balloon(201, 0), balloon(0, 201), balloon(0, 0, 0, 0, 0, 0, 0, 0), balloon(0, 0, 1),
                      balloon(HUGE, HUGE, HUGE)):
            self.assertEqual(last(*full, wrong), [-1])
        self.assertEqual(last(*full, balloon(0, 0, 0, 0, 0, 0, 0)), [-5])

    def test_refused_is_not_there(self):
        given = ask(balloon(201, 0), balloon(0, 0, 1), balloon(0, 0, 0, 0, 0, 0, 0, 0), check(), check(0),
                    stands(7, 8), check(0))
        self.assertEqual(given, [[-1], [-1], [-1], [0], [-1], [0], [0, 7, 8]])

    def test_too_many_changes_no_balloon(self):
        four = [stands(number, -number) for number in range(4)]
        self.assertEqual(last(*four, stands(50, 50), check(0, 0, 0, 0)), [0, 0, 0, 1, -1, 2, -2, 3, -3])


if __name__ == "__main__":
    unittest.main()
