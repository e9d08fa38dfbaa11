import unittest

from tests.helper import (
    BOTH, LEFT, LEFT_ONLY, NEITHER, RIGHT, RIGHT_ONLY, ask, begins, best, come, go, last, try_tracks, undo, with_rows,
)


class Best(unittest.TestCase):
    def test_the_cheapest_of_several(self):
        calls = [begins(BOTH, BOTH), come(0, LEFT, [1], [6, 3]), come(0, LEFT, [1], [1, 9])]
        self.assertEqual(last(*calls, best()), with_rows(2, [4, 1], [1, 0]))

    def test_the_first_of_several_that_cost_the_same(self):
        calls = [begins(BOTH, BOTH, BOTH), come(0, LEFT, [1], [3, 2, 2]), come(0, LEFT, [1], [2, 3, 2])]
        self.assertEqual(last(*calls, best()), with_rows(2, [9, 4], [1, 0]))
        calls = [begins(BOTH, BOTH), come(0, LEFT, [6], [5, 1]), come(0, LEFT, [6], [7, 3])]
        self.assertEqual(last(*calls, best()), with_rows(6, [2, 2], [0, 1]))

    def test_the_first_is_by_the_first_train_told_not_by_the_first_that_comes(self):
        calls = [begins(BOTH, BOTH), come(9, LEFT, [6], [1, 1]), come(2, LEFT, [6], [1, 1])]
        self.assertEqual(last(*calls, best()), with_rows(0, [2, 2], [0, 1]))

    def test_the_first_of_the_cheapest_is_not_the_first_way(self):
        calls = [begins(BOTH, BOTH, BOTH), come(0, LEFT, [6], [4, 1, 1]), come(0, LEFT, [6], [2, 3, 4])]
        self.assertEqual(last(*calls, best()), with_rows(1, [6, 2], [1, 0]))

    def test_one_way(self):
        calls = [begins(NEITHER, RIGHT_ONLY, LEFT_ONLY), come(0, LEFT, [1], [1, 1, 1001])]
        self.assertEqual(last(*calls, best()), with_rows(1000, [1, 1], [2]))
        self.assertEqual(last(*calls, come(1, RIGHT, [1], [1, 5, 1]), best()), with_rows(1004, [1, 1], [2, 1]))

    def test_the_cheaper_tracks_are_no_way(self):
        calls = [begins(BOTH, LEFT_ONLY), come(0, LEFT, [1, 1], [9, 1]), go(1, RIGHT, [1])]
        self.assertEqual(last(*calls, best()), with_rows(8, [1, 1], [0]))
        self.assertEqual(last(*calls, undo(), best()), with_rows(0, [2, 1], [1]))

    def test_a_cost_of_nothing_is_not_a_track_that_is_forbidden(self):
        calls = [begins(BOTH, BOTH), come(0, LEFT, [1], [0, 1])]
        self.assertEqual(last(*calls, best()), with_rows(0, [1, 1], [1]))

    def test_none(self):
        for calls in (
            [begins(BOTH, BOTH), come(0, LEFT, [1], [0, 0])],
            [begins(NEITHER, RIGHT_ONLY), come(0, LEFT, [1], [1, 1])],
            [begins(BOTH, BOTH), come(0, LEFT, [11], [1, 1])],
            [begins(BOTH, BOTH)] + [come(0, LEFT, [6], [1, 1])] * 3,
            [begins(BOTH, BOTH), come(5, LEFT, [1], [1, 1]), go(5, LEFT, [0])],
            [begins(BOTH, BOTH), come(5, LEFT, [1, 1], [1, 1]), go(6, LEFT, [1])],
            [begins(BOTH, BOTH), come(5, LEFT, [1, 1], [1, 1]), go(6, LEFT, [1, 0])],
            [begins(LEFT_ONLY), come(5, LEFT, [1, 1], [1]), go(6, RIGHT, [0, 1])],
        ):
            self.assertEqual(last(*calls, best()), [-6])

    def test_no_train_comes(self):
        for calls in ([], [begins()], [begins(BOTH)], [begins(NEITHER, BOTH)]):
            self.assertEqual(last(*calls, best()), with_rows(0, [1, 1], []))

    def test_no_track(self):
        self.assertEqual(last(come(0, LEFT, [1], []), best()), [-6])
        self.assertEqual(last(begins(BOTH), begins(), come(0, LEFT, [1], []), best()), [-6])

    def test_parts_of_two_trains_that_go_together_stand_on_one_track(self):
        calls = [
            begins(BOTH, BOTH), come(0, LEFT, [1], [1, 5]), come(1, RIGHT, [1], [4, 1]), go(2, LEFT, [0, 1]),
        ]
        self.assertEqual(last(*calls, best()), with_rows(3, [2, 1], [0, 0]))

    def test_nothing_is_changed(self):
        calls = [begins(BOTH, BOTH), come(0, LEFT, [6], [5, 1]), come(0, LEFT, [6], [7, 3]), go(1, LEFT, [0])]
        told = ask(*calls, best(), best(), try_tracks(1, 0), come(1, LEFT, [1], [1, 1]), go(2, LEFT, [1]))
        answered = with_rows(6, [2, 2], [0, 1])
        self.assertEqual(told[4:], [answered, answered, [6], [2, 1, 2], [1]])


if __name__ == "__main__":
    unittest.main()
