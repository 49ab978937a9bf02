"""Many made-up lines, held against a second telling of the document: hour by hour, all balloons at once."""

import itertools
import random
import unittest

from lines import HUGE, apart, balloon, begins, best, check, hour, lands, line, soonest
from waitingballoons.field import answers


class Model:
    def __init__(self):
        self.heights, self.near, self.wait, self.hours, self.balloons = 1, 0, 0, [], []

    def answer(self, number, told):
        calls = [self.begins, self.hour, self.balloon, self.check, self.best, self.soonest, self.lands]
        return calls[number](told)

    def begins(self, told):
        if told[0] not in (1, 2, 3, 4) or told[1] > 1000 or told[2] > 3:
            return [-1]
        self.heights, self.near, self.wait = told
        self.hours, self.balloons = [], []
        return [0]

    def hour(self, told):
        if len(told) / 2 != self.heights or any(number > 18 for number in told):
            return [-1]
        if len(self.hours) >= 8:
            return [-5]
        self.hours.append([number - 9 for number in told])
        return [len(self.hours) - 1]

    def balloon(self, told):
        if any(number > 200 for number in told[:2]) or len(told) > 7 or any(h >= self.heights for h in told[2:]):
            return [-1]
        if len(self.balloons) >= 4:
            return [-5]
        self.balloons.append((told[0] - 100, told[1] - 100, told[2:]))
        return [len(self.balloons) - 1]

    def check(self, plan):
        if len(plan) != len(self.balloons) or any(waits > self.wait for waits in plan):
            return [-1]
        down = [waits + len(one[2]) for waits, one in zip(plan, self.balloons)]
        for number, behind in enumerate(down):
            if behind > len(self.hours):
                return [-7, number]
        places = [list(one[:2]) for one in self.balloons]
        for number, winds in enumerate(self.hours):
            height_of = {}
            for which, waits in enumerate(plan):
                if waits <= number < down[which]:
                    height = self.balloons[which][2][number - waits]
                    height_of[which] = height
                    places[which][0] += winds[height * 2]
                    places[which][1] += winds[height * 2 + 1]
            pairs = [(a, b) for a in height_of for b in height_of if a < b and height_of[a] == height_of[b]]
            close = [(a, b) for a, b in pairs
                     if (places[a][0] - places[b][0]) ** 2 + (places[a][1] - places[b][1]) ** 2 < self.near]
            if close:
                return [-6, number, *min(close)]
        return [max(down + [0]), *[number for place in places for number in place]]

    def sorted_plans(self, by_waiting):
        """All plans that can be, each behind its two numbers; the first is the one asked for."""
        found = []
        for plan in itertools.product(range(self.wait, -1, -1), repeat=len(self.balloons)):
            behind = self.check(plan)[0]
            if behind >= 0:
                found.append(((sum(plan), behind) if by_waiting else (behind, sum(plan)), plan))
        return sorted(found)

    def least(self, by_waiting):
        found = self.sorted_plans(by_waiting)
        if not found:
            return [-6]
        return [*found[0][0], sum(one[0] == found[0][0] for one in found), *found[0][1]]

    def best(self, told):
        return self.least(True)

    def soonest(self, told):
        return self.least(False)

    def lands(self, told):
        number, waits = told
        if number not in range(len(self.balloons)):
            return [-2]
        if waits > self.wait:
            return [-1]
        alone = Model()
        alone.heights, alone.wait, alone.hours = self.heights, self.wait, self.hours
        alone.balloons = [self.balloons[number]]
        answer = alone.check([waits])
        return answer[:1] if answer[0] < 0 else answer


def made_begins(luck):
    return begins(luck.choice([1, 2, 2, 3, 4, 0, 5]), luck.choice([0, 9, 100, 1000, 1000, 1001, HUGE]),
                  luck.choice([0, 1, 2, 3, 3, 4]))


def made_hour(luck, heights):
    return hour(*[luck.randint(0, 18) for _ in range(2 * heights)] + luck.choice([[]] * 30 + [[9], [19]]))


def made_balloon(luck, heights):
    flight = [luck.randrange(heights) for _ in range(luck.choice([0, 1, 2, 3, 3, 4, 5]))]
    spot = luck.choice([(80, 120), (0, 200)])
    return balloon(luck.randint(*spot), luck.randint(*spot), *flight + luck.choice([[]] * 20 + [[4]]))


def made_line(luck):
    """Mostly told well, so that plans are often ones that can be, but for two that are too near."""
    first = made_begins(luck)
    heights = first[2] if 1 <= first[2] <= 4 and luck.random() < 0.9 else 1
    balloons = luck.choice([0, 1, 2, 3, 4, 4, 5])
    calls = [first]
    calls += [made_hour(luck, heights) for _ in range(luck.choice([2, 5, 7, 8, 9]))]
    calls += [made_balloon(luck, heights) for _ in range(balloons)]
    for _ in range(luck.randint(3, 12)):
        count = min(balloons, 4) if luck.random() < 0.9 else luck.randint(0, 6)
        calls.append(check(*[luck.choice([0, 0, 1, 1, 2, 3]) for _ in range(count)]))
    for _ in range(luck.randint(0, 4)):
        calls.append(lands(luck.choice([0, 0, 1, 1, 2, 3, 4, HUGE]), luck.choice([0, 0, 1, 2, 3, 4, HUGE])))
    asked = [best(), soonest()] * luck.choice([0, 1, 1, 3]) if luck.random() < 0.5 else []
    calls = calls[:40 - len(asked)] + asked
    if luck.random() < 0.2:
        luck.shuffle(calls)
    return calls


class ManyLines(unittest.TestCase):
    def test_as_the_model_answers(self):
        luck = random.Random(127)
        seen = {}
        for _ in range(3000):
            calls = made_line(luck)
            model = Model()
            wanted = [model.answer(one[0], one[2:-1]) for one in calls]
            self.assertEqual(apart(answers(line(*calls))), wanted, calls)
            for one, answer in zip(calls, wanted):
                kind = (one[0], min(answer[0], 0))
                seen[kind] = seen.get(kind, 0) + 1
        for kind in ((0, 0), (0, -1), (1, 0), (1, -1), (1, -5), (2, 0), (2, -1), (2, -5),
                     (3, 0), (3, -1), (3, -7), (3, -6), (4, 0), (4, -6), (5, 0), (5, -6),
                     (6, 0), (6, -2), (6, -1), (6, -7)):
            self.assertGreater(seen.get(kind, 0), 100, kind)

    def test_best_and_soonest_in_crowds(self):
        """Crowded fields, where many plans can be and many can't."""
        luck = random.Random(128)
        different = 0
        several = 0
        none = 0
        for _ in range(300):
            heights = luck.choice([1, 2, 2])
            calls = [begins(heights, luck.choice([4, 9, 25, 60]), luck.choice([2, 3]))]
            calls += [hour(*[luck.randint(7, 11) for _ in range(2 * heights)]) for _ in range(luck.choice([6, 7, 8]))]
            for _ in range(luck.choice([2, 3, 3, 4])):
                flight = [luck.randrange(heights) for _ in range(luck.choice([0, 1, 1, 2, 4, 5]))]
                calls.append(balloon(luck.randint(97, 103), luck.randint(97, 103), *flight))
            calls += [best(), soonest()]
            model = Model()
            wanted = [model.answer(one[0], one[2:-1]) for one in calls]
            self.assertEqual(apart(answers(line(*calls))), wanted, calls)
            different += wanted[-2][3:] != wanted[-1][3:]
            several += wanted[-2][0] > 0 and wanted[-2][2] > 1
            none += wanted[-1] == [-6]
        self.assertGreater(different, 10)
        self.assertGreater(several, 10)
        self.assertGreater(none, 10)


if __name__ == "__main__":
    unittest.main()
