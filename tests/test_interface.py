import unittest

import waitingballoons.field
from lines import HUGE, apart, ask, balloon, begins, best, check, hour, lands, line, soonest, stands, wind

LONG_LINE = line(
    begins(2, 2, 2), wind(1, 2, -3, 4), wind(0, 0, 0, 0), wind(9, 9, -9, -9), stands(0, 0, 0, 1), stands(1, 0, 0),
    check(0, 0), check(0, 1), check(2, 0), check(0, 0, 0), begins(0, 0, 0), hour(9), balloon(201, 0), check(1, 2),
    best(), soonest(), lands(1, 2), lands(0, 2), lands(2, 0), lands(0, 3))

# Forty calls, all seven of them mixed, six of them best and soonest.
FORTY_MIXED = (
    best(), lands(0, 0), check(), begins(2, 1, 3), soonest(), hour(9, 9, 9, 9), stands(0, 0, 0, 0, 1, 1, 1),
    lands(0, 0), best(), wind(1, 0, 0, 1), wind(2, 0, 0, 2), hour(9, 9), wind(3, 0, 0, 3), wind(4, 0, 0, 4),
    lands(0, 0), lands(0, 1), lands(0, 3), lands(1, 0), lands(0, 4), check(0), stands(0, 0, 0), check(0, 0),
    soonest(), wind(5, 0, 0, 5), wind(6, 0, 0, 6), best(), soonest(), check(0, 1), check(1, 0), lands(1, 1),
    lands(1, 3), balloon(100, 100, 2), wind(7, 0, 0, 7), wind(8, 0, 0, 8), lands(0, 3), check(0, 2),
    check(3, 3), begins(5, 0, 0), begins(1, 0, 0), check())
FORTY_MIXED_ANSWERS = [
    [0, 0, 1], [-2], [0], [0], [0, 0, 1], [0], [0],
    [-7], [-6], [1], [2], [-1], [3], [4],
    [5, 1, 9], [-7], [-7], [-2], [-1], [5, 1, 9], [1], [-6, 0, 0, 1],
    [5, 2, 1, 0, 2], [5], [6], [1, 6, 1, 1, 0], [5, 2, 1, 0, 2], [-6, 1, 0, 1], [6, 3, 12, 0, 0], [2, 1, 0],
    [4, 3, 0], [-1], [7], [-5], [8, 7, 18], [5, 1, 9, 2, 0],
    [-6, 3, 0, 1], [-1], [0], [0]]


class WatchedList(list):
    """A list that will not be changed."""

    def refuse(self, *told, **named):
        raise AssertionError("what was handed in is changed")

    __setitem__ = __delitem__ = __iadd__ = __imul__ = refuse
    append = clear = extend = insert = pop = remove = reverse = sort = refuse


class Interface(unittest.TestCase):
    def test_form_of_what_it_gives_back(self):
        given = waitingballoons.field.answers(LONG_LINE)
        self.assertEqual(given, [
            1, 0, 1, 0, 1, 1, 1, 2, 1, 0, 1, 1,
            4, -6, 0, 0, 1,
            5, 2, 1, 2, 1, 0,
            2, -7, 0,
            1, -1, 1, -1, 1, -1, 1, -1,
            5, 3, -9, -9, 10, 9,
            5, 1, 2, 1, 0, 1,
            5, 2, 1, 1, 0, 1,
            3, 3, 10, 9,
            1, -7, 1, -2, 1, -1,
        ])

    def test_whole_numbers_in_a_list(self):
        given = waitingballoons.field.answers(LONG_LINE)
        self.assertIs(type(given), list)
        self.assertEqual({type(number) for number in given}, {int})

    def test_each_number_of_a_call(self):
        self.assertEqual(waitingballoons.field.answers([0, 3, 1, 0, 0, 0]), [1, 0])
        self.assertEqual(waitingballoons.field.answers([1, 2, 9, 9, 0]), [1, 0])
        self.assertEqual(waitingballoons.field.answers([2, 2, 100, 100, 0]), [1, 0])
        self.assertEqual(waitingballoons.field.answers([3, 0, 0]), [1, 0])
        self.assertEqual(waitingballoons.field.answers([4, 0, 0]), [3, 0, 0, 1])
        self.assertEqual(waitingballoons.field.answers([5, 0, 0]), [3, 0, 0, 1])
        self.assertEqual(waitingballoons.field.answers([6, 2, 0, 0, 0]), [1, -2])
        self.assertEqual(waitingballoons.field.answers([2, 2, 93, 107, 0, 6, 2, 0, 0, 0]), [1, 0, 3, 0, -7, 7])

    def test_no_winds_and_as_many_as_there_may_be(self):
        self.assertEqual(waitingballoons.field.answers([1, 0, 0, 3, 0, 0]), [1, -1, 1, 0])
        self.assertEqual(waitingballoons.field.answers(line(hour(*[9] * 10), check())), [1, -1, 1, 0])
        self.assertEqual(waitingballoons.field.answers(line(balloon(0, 0, *[0] * 8), check())), [1, -1, 1, 0])
        self.assertEqual(waitingballoons.field.answers(line(check(*[0] * 6), check())), [1, -1, 1, 0])

    def test_huge_numbers_everywhere(self):
        calls = line(begins(HUGE, HUGE, HUGE), hour(*[HUGE] * 10), hour(HUGE, HUGE), balloon(HUGE, HUGE, *[HUGE] * 8),
                     balloon(HUGE, HUGE), balloon(0, 0, HUGE), check(*[HUGE] * 6), lands(HUGE, HUGE),
                     stands(0, 0), check(HUGE), lands(0, HUGE), lands(HUGE, 0))
        self.assertEqual(waitingballoons.field.answers(calls),
                         [1, -1] * 7 + [1, -2, 1, 0, 1, -1, 1, -1, 1, -2])

    def test_forty_calls(self):
        calls = line(begins(4, 1000, 3), *[hour(*[9] * 8)] * 8, *[balloon(100, 100, 0, 0, 0, 0, 0)] * 4,
                     *[check(3, 3, 3, 3)] * 27)
        told = [1, 0] + [number for hour_told in range(8) for number in (1, hour_told)]
        told += [1, 0, 1, 1, 1, 2, 1, 3] + [4, -6, 3, 0, 1] * 27
        self.assertEqual(waitingballoons.field.answers(calls), told)

    def test_forty_calls_of_every_kind(self):
        self.assertEqual(len(FORTY_MIXED), 40)
        self.assertEqual(ask(*FORTY_MIXED), FORTY_MIXED_ANSWERS)

    def test_two_lines_one_behind_another(self):
        handed_in = line(*FORTY_MIXED)
        kept = list(handed_in)
        first = waitingballoons.field.answers(handed_in)
        second = waitingballoons.field.answers(handed_in)
        self.assertEqual(handed_in, kept)
        self.assertEqual(apart(first), FORTY_MIXED_ANSWERS)
        self.assertEqual(second, first)
        # This line ends with balloons told; the one behind it knows nothing of them.
        waitingballoons.field.answers(LONG_LINE)
        self.assertEqual(waitingballoons.field.answers(line(soonest(), lands(0, 0), best())),
                         [3, 0, 0, 1, 1, -2, 3, 0, 0, 1])

    def test_what_is_handed_in_is_not_changed(self):
        handed_in = list(LONG_LINE)
        waitingballoons.field.answers(handed_in)
        self.assertEqual(handed_in, LONG_LINE)

    def test_what_is_handed_in_is_not_changed_for_a_while_either(self):
        for long_line in (LONG_LINE, line(*FORTY_MIXED)):
            watched = WatchedList(long_line)
            self.assertEqual(waitingballoons.field.answers(watched), waitingballoons.field.answers(long_line))
            self.assertEqual(list(watched), long_line)

    def test_nothing_is_kept(self):
        handed_in = list(LONG_LINE)
        first = waitingballoons.field.answers(handed_in)
        kept = list(first)
        self.assertEqual(waitingballoons.field.answers(line(check(), hour(9, 9), balloon(100, 100, 0), check(0))),
                         [1, 0, 1, 0, 1, 0, 3, 1, 0, 0])
        second = waitingballoons.field.answers(handed_in)
        self.assertEqual(second, kept)
        second.append(1)
        self.assertEqual(first, kept)
        self.assertEqual(waitingballoons.field.answers(handed_in), kept)


if __name__ == "__main__":
    unittest.main()
