"""What best, fewest and forced tell of all ways is what try_tracks tells of each choice of tracks."""

import itertools
import unittest

from tests.helper import (
    BOTH, LEFT, LEFT_ONLY, NEITHER, RIGHT, RIGHT_ONLY,
    ask, begins, best, come, fewest, forced, go, try_tracks, with_rows,
)

MOST_TRIES = 30


def costs_of_ways(calls, tracks, trains):
    choices = list(itertools.product(range(tracks), repeat=trains))
    found = {}
    for at in range(0, len(choices), MOST_TRIES):
        some = choices[at:at + MOST_TRIES]
        told = ask(*calls, *[try_tracks(*chosen) for chosen in some])[len(calls):]
        found.update({chosen: answered[0] for chosen, answered in zip(some, told) if answered[0] >= 0})
    return found


def cheapest(costs):
    return min(costs, key=lambda chosen: (costs[chosen], chosen))


def told_of(costs):
    if not costs:
        return [[-6], [-6], [-6]]
    first = cheapest(costs)
    few = min(len(set(chosen)) for chosen in costs)
    narrow = cheapest({chosen: cost for chosen, cost in costs.items() if len(set(chosen)) == few})
    alike = [cost for cost in costs.values() if cost == costs[first]]
    one = [[train, track] for train, track in enumerate(first) if {chosen[train] for chosen in costs} == {track}]
    return [
        with_rows(costs[first], [len(costs), len(alike)], list(first)),
        with_rows(few, [costs[narrow]], list(narrow)),
        with_rows(len(one), *one),
    ]


class Ways(unittest.TestCase):
    def check(self, calls, tracks, trains, ways):
        costs = costs_of_ways(calls, tracks, trains)
        self.assertEqual(len(costs), ways)
        self.assertEqual(ask(*calls, best(), fewest(), forced())[len(calls):], told_of(costs))

    def test_trains_that_are_parted_and_put_together(self):
        calls = [
            begins(BOTH, LEFT_ONLY, BOTH),
            come(0, LEFT, [2, 2], [3, 1, 4]), come(1, LEFT, [2, 1], [1, 5, 9]),
            come(1, RIGHT, [3], [2, 6, 5]), come(4, LEFT, [3], [3, 5, 8]),
            go(2, LEFT, [2, 3]), go(5, LEFT, [5, 0]), go(6, RIGHT, [4]),
        ]
        self.check(calls, 3, 4, 18)

    def test_who_goes_takes_parts_of_two_trains(self):
        calls = [
            begins(BOTH, BOTH, BOTH), come(0, LEFT, [1, 1], [1, 2, 3]), come(0, RIGHT, [1, 1], [4, 3, 2]),
            come(0, RIGHT, [1], [1, 1, 1]), go(1, LEFT, [0]), go(2, LEFT, [1, 2]),
        ]
        self.check(calls, 3, 3, 9)

    def test_a_train_in_the_way_of_those_of_two_others(self):
        calls = [
            begins(BOTH, BOTH, LEFT_ONLY), come(0, LEFT, [3], [1, 1, 1]), come(1, LEFT, [3], [2, 2, 1]),
            come(2, LEFT, [3], [3, 1, 1]), go(3, LEFT, [0]), go(4, LEFT, [1]),
        ]
        self.check(calls, 3, 3, 6)

    def test_room_that_runs_short(self):
        calls = [begins((7, 1, 1), (9, 1, 1), (4, 1, 0), (6, 0, 1))]
        calls += [come(minute, LEFT, [minute + 1], [1, 3, 2, 4]) for minute in range(4)]
        calls += [come(5, RIGHT, [2, 3], [1, 2, 3, 4]), go(4, LEFT, [3])]
        self.check(calls, 4, 5, 121)

    def test_none(self):
        calls = [begins(BOTH, RIGHT_ONLY, NEITHER)] + [come(0, LEFT, [4], [1, 1, 1])] * 3
        self.check(calls, 3, 3, 0)


class FourTracksAndSixTrains(unittest.TestCase):
    def calls(self):
        calls = [begins(*[(100, 1, 1)] * 4)]
        calls += [come(0, RIGHT, [1, 1], [4, 3, 2, 1]), come(0, RIGHT, [1, 1], [1, 2, 3, 4])] * 3
        return calls + [go(1, LEFT, [part]) for part in range(12)]

    def test_ten_times_in_one_list(self):
        calls = self.calls()
        cheap = with_rows(0, [4096, 1], [3, 0, 3, 0, 3, 0])
        few = with_rows(1, [9], [0, 0, 0, 0, 0, 0])
        told = ask(*calls, *[best()] * 4, *[fewest()] * 3, *[forced()] * 3)[len(calls):]
        self.assertEqual(told, [cheap] * 4 + [few] * 3 + [[0]] * 3)
        for call, answered in ((best(), cheap), (fewest(), few), (forced(), [0])):
            self.assertEqual(ask(*calls, *[call] * 10)[len(calls):], [answered] * 10)

    def test_none_ten_times_in_one_list(self):
        calls = [begins(*[(100, 1, 1)] * 4)] + [come(0, RIGHT, [1, 1], [1] * 4)] * 6 + [go(9, LEFT, [11, 10])]
        told = ask(*calls, *[best(), fewest(), forced()] * 3, best())
        self.assertEqual(told[8:], [[-6]] * 10)


if __name__ == "__main__":
    unittest.main()
