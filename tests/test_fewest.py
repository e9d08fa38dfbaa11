import unittest

from tests.helper import (
    BOTH, LEFT, LEFT_ONLY, NEITHER, RIGHT, RIGHT_ONLY,
    ask, begins, best, come, fewest, go, last, try_tracks, undo, with_rows,
)


class Fewest(unittest.TestCase):
    def test_all_on_one_track(self):
        calls = [begins(BOTH, BOTH), come(0, LEFT, [1], [6, 3]), come(0, LEFT, [1], [1, 9])]
        self.assertEqual(last(*calls, fewest()), with_rows(1, [5], [0, 0]))

    def test_the_cheapest_way_is_not_on_the_fewest_tracks(self):
        calls = [
            begins(BOTH, BOTH, BOTH),
            come(0, LEFT, [1], [1, 9, 9]), come(0, LEFT, [1], [8, 1, 4]), come(0, LEFT, [1], [8, 5, 1]),
        ]
        self.assertEqual(last(*calls, best()), with_rows(0, [27, 1], [0, 1, 2]))
        self.assertEqual(last(*calls, fewest()), with_rows(1, [11], [2, 2, 2]))

    def test_the_cheapest_of_those_with_so_few_not_the_first(self):
        calls = [begins(BOTH, BOTH, BOTH), come(0, LEFT, [1], [4, 2, 3])]
        self.assertEqual(last(*calls, fewest()), with_rows(1, [1], [1]))

    def test_the_first_of_several_that_cost_the_same(self):
        calls = [begins(BOTH, BOTH, BOTH), come(0, LEFT, [1], [4, 2, 3]), come(0, LEFT, [1], [4, 5, 4])]
        self.assertEqual(last(*calls, fewest()), with_rows(1, [5], [1, 1]))
        calls = [begins(BOTH, BOTH, BOTH)] + [come(0, LEFT, [6], [4, 1, 1])] * 2
        self.assertEqual(last(*calls, fewest()), with_rows(2, [0], [1, 2]))

    def test_two_tracks_where_one_has_no_room(self):
        calls = [begins(BOTH, BOTH, BOTH)] + [come(0, LEFT, [4], [1, 2, 3])] * 3
        self.assertEqual(last(*calls, fewest()), with_rows(2, [1], [0, 0, 1]))

    def test_tracks_are_counted_on_which_nothing_stands_any_longer(self):
        calls = [begins(BOTH, BOTH), come(0, LEFT, [1], [1, 0]), go(1, LEFT, [0]), come(2, LEFT, [1], [0, 1])]
        self.assertEqual(last(*calls, fewest()), with_rows(2, [0], [0, 1]))

    def test_one_way(self):
        calls = [begins(NEITHER, RIGHT_ONLY, LEFT_ONLY), come(0, LEFT, [1], [1, 1, 8])]
        self.assertEqual(last(*calls, fewest()), with_rows(1, [7], [2]))
        self.assertEqual(last(*calls, come(1, RIGHT, [1], [1, 5, 1]), fewest()), with_rows(2, [11], [2, 1]))

    def test_six_trains_on_four_tracks_at_the_least(self):
        calls = [begins(*[BOTH] * 4)] + [come(0, LEFT, [5], [1] * 4)] * 5 + [come(0, LEFT, [10], [1] * 4)]
        self.assertEqual(last(*calls, fewest()), with_rows(4, [0], [0, 0, 1, 1, 2, 3]))

    def test_none(self):
        for calls in (
            [begins(BOTH, BOTH), come(0, LEFT, [1], [0, 0])],
            [begins(BOTH, BOTH)] + [come(0, LEFT, [6], [1, 1])] * 3,
            [begins(BOTH, BOTH), come(5, LEFT, [1], [1, 1]), go(5, LEFT, [0])],
        ):
            self.assertEqual(last(*calls, fewest()), [-6])

    def test_no_train_comes(self):
        for calls in ([], [begins()], [begins(BOTH)], [begins(NEITHER, BOTH)]):
            self.assertEqual(last(*calls, fewest()), with_rows(0, [0], []))

    def test_no_track(self):
        self.assertEqual(last(come(0, LEFT, [1], []), fewest()), [-6])
        self.assertEqual(last(begins(BOTH), begins(), come(0, LEFT, [1], []), fewest()), [-6])

    def test_nothing_is_changed(self):
        calls = [begins(BOTH, BOTH), come(0, LEFT, [6], [5, 1]), come(0, LEFT, [6], [7, 3]), go(1, LEFT, [0])]
        told = ask(*calls, fewest(), fewest(), try_tracks(1, 0), undo(), come(1, RIGHT, [1], [1, 1]))
        answered = with_rows(2, [6], [0, 1])
        self.assertEqual(told[4:], [answered, answered, [6], [0], [2, 1, 2]])


if __name__ == "__main__":
    unittest.main()
