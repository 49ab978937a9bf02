import unittest

import waitingballoons.field
from lines import HUGE, balloon, begins, check, hour, line, stands, wind

LONG_LINE = line(
    begins(2, 2, 2), wind(1, 2, -3, 4), wind(0, 0, 0, 0), wind(9, 9, -9, -9), stands(0, 0, 0, 1), stands(1, 0, 0),
    check(0, 0), check(0, 1), check(2, 0), check(0, 0, 0), begins(0, 0, 0), hour(9), balloon(201, 0), check(1, 2))


class WatchedList(list):
    """A list that will not be changed."""

    def refuse(self, *told, **named):
        raise AssertionError("what was handed in is changed")

    __setitem__ = __delitem__ = __iadd__ = __imul__ = refuse
    append = clear = extend = insert = pop = remove = reverse = sort = refuse


class Interface(unittest.TestCase):
    def test_form_of_what_it_gives_back(self):
        given = waitingballoons.field.answers(LONG_LINE)
        self.assertEqual(given, [
            1, 0, 1, 0, 1, 1, 1, 2, 1, 0, 1, 1,
            4, -6, 0, 0, 1,
            5, 2, 1, 2, 1, 0,
            2, -7, 0,
            1, -1, 1, -1, 1, -1, 1, -1,
            5, 3, -9, -9, 10, 9,
        ])

    def test_whole_numbers_in_a_list(self):
        given = waitingballoons.field.answers(LONG_LINE)
        self.assertIs(type(given), list)
        self.assertEqual({type(number) for number in given}, {int})

    def test_each_number_of_a_call(self):
        self.assertEqual(waitingballoons.field.answers([0, 3, 1, 0, 0, 0]), [1, 0])
        self.assertEqual(waitingballoons.field.answers([1, 2, 9, 9, 0]), [1, 0])
        self.assertEqual(waitingballoons.field.answers([2, 2, 100, 100, 0]), [1, 0])
        self.assertEqual(waitingballoons.field.answers([3, 0, 0]), [1, 0])

    def test_no_winds_and_as_many_as_there_may_be(self):
        self.assertEqual(waitingballoons.field.answers([1, 0, 0, 3, 0, 0]), [1, -1, 1, 0])
        self.assertEqual(waitingballoons.field.answers(line(hour(*[9] * 10), check())), [1, -1, 1, 0])
        self.assertEqual(waitingballoons.field.answers(line(balloon(0, 0, *[0] * 8), check())), [1, -1, 1, 0])
        self.assertEqual(waitingballoons.field.answers(line(check(*[0] * 6), check())), [1, -1, 1, 0])

    def test_huge_numbers_everywhere(self):
        calls = line(begins(HUGE, HUGE, HUGE), hour(*[HUGE] * 10), hour(HUGE, HUGE), balloon(HUGE, HUGE, *[HUGE] * 8),
                     balloon(HUGE, HUGE), balloon(0, 0, HUGE), check(*[HUGE] * 6), stands(0, 0), check(HUGE))
        self.assertEqual(waitingballoons.field.answers(calls),
                         [1, -1, 1, -1, 1, -1, 1, -1, 1, -1, 1, -1, 1, -1, 1, 0, 1, -1])

    def test_forty_calls(self):
        calls = line(begins(4, 1000, 3), *[hour(*[9] * 8)] * 8, *[balloon(100, 100, 0, 0, 0, 0, 0)] * 4,
                     *[check(3, 3, 3, 3)] * 27)
        told = [1, 0] + [number for hour_told in range(8) for number in (1, hour_told)]
        told += [1, 0, 1, 1, 1, 2, 1, 3] + [4, -6, 3, 0, 1] * 27
        self.assertEqual(waitingballoons.field.answers(calls), told)

    def test_what_is_handed_in_is_not_changed(self):
        handed_in = list(LONG_LINE)
        waitingballoons.field.answers(handed_in)
        self.assertEqual(handed_in, LONG_LINE)

    def test_what_is_handed_in_is_not_changed_for_a_while_either(self):
        watched = WatchedList(LONG_LINE)
        self.assertEqual(waitingballoons.field.answers(watched), waitingballoons.field.answers(LONG_LINE))
        self.assertEqual(list(watched), LONG_LINE)

    def test_nothing_is_kept(self):
        handed_in = list(LONG_LINE)
        first = waitingballoons.field.answers(handed_in)
        kept = list(first)
        self.assertEqual(waitingballoons.field.answers(line(check(), hour(9, 9), balloon(100, 100, 0), check(0))),
                         [1, 0, 1, 0, 1, 0, 3, 1, 0, 0])
        second = waitingballoons.field.answers(handed_in)
        self.assertEqual(second, kept)
        second.append(1)
        self.assertEqual(first, kept)
        self.assertEqual(waitingballoons.field.answers(handed_in), kept)


if __name__ == "__main__":
    unittest.main()
