import unittest

from tests.helper import (
    BOTH, LEFT, LEFT_ONLY, NEITHER, RIGHT, RIGHT_ONLY,
    ask, begins, best, come, forced, go, last, try_tracks, undo, with_rows,
)


class Forced(unittest.TestCase):
    def test_several_tracks_for_all(self):
        calls = [begins(BOTH, BOTH), come(0, LEFT, [1], [1, 1]), come(0, LEFT, [1], [1, 1000])]
        self.assertEqual(last(*calls, forced()), [0])

    def test_one_track_for_some(self):
        calls = [
            begins(BOTH, LEFT_ONLY, RIGHT_ONLY),
            come(0, LEFT, [1], [1, 1, 1]), come(1, RIGHT, [1], [0, 1, 1]), come(2, LEFT, [1], [0, 1, 1]),
        ]
        self.assertEqual(last(*calls, forced()), with_rows(2, [1, 2], [2, 1]))

    def test_one_way(self):
        calls = [begins(NEITHER, RIGHT_ONLY, LEFT_ONLY), come(0, LEFT, [1], [1, 1, 8]), come(0, RIGHT, [1], [1, 5, 1])]
        self.assertEqual(last(*calls, forced()), with_rows(2, [0, 2], [1, 1]))

    def test_dearer_ways_count_too(self):
        calls = [begins(BOTH, BOTH), come(0, LEFT, [1], [1, 1001])]
        self.assertEqual(last(*calls, best()), with_rows(0, [2, 1], [0]))
        self.assertEqual(last(*calls, forced()), [0])

    def test_two_ways_that_differ_in_all_trains(self):
        calls = [begins(BOTH, BOTH), come(0, LEFT, [6], [1, 1]), come(0, LEFT, [6], [1, 1])]
        self.assertEqual(last(*calls, forced()), [0])

    def test_another_train_leaves_one_track(self):
        calls = [begins(BOTH, BOTH), come(0, LEFT, [6], [1, 1]), come(0, LEFT, [6], [1, 0])]
        self.assertEqual(last(*calls, forced()), with_rows(2, [0, 1], [1, 0]))

    def test_who_goes_leaves_one_track(self):
        calls = [begins(BOTH, LEFT_ONLY), come(0, LEFT, [1, 1], [9, 1]), come(0, LEFT, [1], [1, 1]), go(1, RIGHT, [1])]
        self.assertEqual(last(*calls, forced()), with_rows(1, [0, 0]))
        self.assertEqual(last(*calls, undo(), forced()), [0])

    def test_one_track_for_all_six(self):
        calls = [begins(NEITHER, NEITHER, NEITHER, BOTH)] + [come(0, LEFT, [1], [1] * 4)] * 6
        self.assertEqual(last(*calls, forced()), with_rows(6, *[[train, 3] for train in range(6)]))

    def test_none(self):
        for calls in (
            [begins(BOTH, BOTH), come(0, LEFT, [1], [0, 0])],
            [begins(BOTH, BOTH)] + [come(0, LEFT, [6], [1, 1])] * 3,
            [begins(BOTH, BOTH), come(5, LEFT, [1], [1, 0]), go(5, LEFT, [0])],
        ):
            self.assertEqual(last(*calls, forced()), [-6])

    def test_no_train_comes(self):
        for calls in ([], [begins()], [begins(BOTH)], [begins(NEITHER, BOTH)]):
            self.assertEqual(last(*calls, forced()), [0])

    def test_no_track(self):
        self.assertEqual(last(come(0, LEFT, [1], []), forced()), [-6])
        self.assertEqual(last(begins(BOTH), begins(), come(0, LEFT, [1], []), forced()), [-6])

    def test_nothing_is_changed(self):
        calls = [begins(BOTH, BOTH), come(0, LEFT, [6], [5, 1]), come(0, LEFT, [6], [0, 3]), go(1, LEFT, [0])]
        told = ask(*calls, forced(), forced(), try_tracks(0, 1), undo(), come(1, RIGHT, [1], [1, 1]))
        answered = with_rows(2, [0, 0], [1, 1])
        self.assertEqual(told[4:], [answered, answered, [6], [0], [2, 1, 2]])


if __name__ == "__main__":
    unittest.main()
