import unittest

from tests.helper import (
    BOTH, LARGEST, LEFT, LEFT_ONLY, NEITHER, RIGHT, RIGHT_ONLY,
    ask, begins, come, comes_first, go, goes_first, last, stands, try_tracks, undo, with_rows,
)


class Rows(unittest.TestCase):
    def setUp(self):
        self.calls = [
            begins(BOTH, LEFT_ONLY, BOTH),
            come(5, LEFT, [1, 1], [1, 1, 1]), come(7, LEFT, [1], [1, 1, 1]), come(7, RIGHT, [1, 1, 1], [1, 1, 1]),
            go(9, RIGHT, [4, 5]), go(9, LEFT, [2, 0]), go(10000, LEFT, [1, 3]),
        ]

    def test_behind_no_move(self):
        for minute in (0, 4):
            self.assertEqual(last(*self.calls, stands(minute, 0, 0, 0)), with_rows(0, [], [], []))

    def test_behind_some_moves(self):
        for minute in (5, 6):
            self.assertEqual(last(*self.calls, stands(minute, 0, 0, 0)), with_rows(2, [0, 1], [], []))
        for minute in (7, 8):
            self.assertEqual(last(*self.calls, stands(minute, 0, 0, 0)), with_rows(6, [2, 0, 1, 3, 4, 5], [], []))
        for minute in (9, 10, 9999):
            self.assertEqual(last(*self.calls, stands(minute, 0, 0, 0)), with_rows(2, [1, 3], [], []))

    def test_behind_all_moves(self):
        self.assertEqual(last(*self.calls, stands(10000, 0, 0, 0)), with_rows(0, [], [], []))
        self.assertEqual(last(*self.calls, undo(), stands(10000, 0, 0, 0)), with_rows(2, [1, 3], [], []))

    def test_of_the_very_minute_all_moves(self):
        calls = [
            begins(BOTH), come(0, LEFT, [1, 1], [1]), come(0, LEFT, [1], [1]),
            go(3, LEFT, [2]), go(3, RIGHT, [1]), come(3, RIGHT, [1], [1]),
        ]
        self.assertEqual(last(*calls, stands(0, 0, 0, 0)), with_rows(3, [2, 0, 1]))
        self.assertEqual(last(*calls, stands(2, 0, 0, 0)), with_rows(3, [2, 0, 1]))
        self.assertEqual(last(*calls, stands(3, 0, 0, 0)), with_rows(2, [0, 3]))

    def test_who_goes_makes_room_in_the_very_minute(self):
        calls = [begins(BOTH), come(1, LEFT, [10], [1]), go(2, LEFT, [0]), come(2, RIGHT, [10], [1])]
        self.assertEqual(last(*calls, stands(1, 0, 0)), with_rows(1, [0]))
        self.assertEqual(last(*calls, stands(2, 0, 0)), with_rows(1, [1]))

    def test_empty_tracks_among_others(self):
        for tracks, rows in (
            ((2, 0, 2), ([2], [], [0, 1, 3, 4, 5])),
            ((1, 1, 2), ([], [2, 0, 1], [3, 4, 5])),
            ((2, 2, 2), ([], [], [2, 0, 1, 3, 4, 5])),
            ((0, 2, 0), ([0, 1, 3, 4, 5], [], [2])),
        ):
            self.assertEqual(last(*self.calls, stands(7, *tracks)), with_rows(6, *rows))

    def test_four_tracks_and_all_parts(self):
        calls = [begins(*[(100, 1, 1)] * 4)] + [come(0, LEFT, [1] * 4, [1] * 4)] * 6
        self.assertEqual(last(*calls, stands(0, 3, 1, 3, 0, 1, 3)), with_rows(
            24, [12, 13, 14, 15], [16, 17, 18, 19, 4, 5, 6, 7], [], [20, 21, 22, 23, 8, 9, 10, 11, 0, 1, 2, 3],
        ))

    def test_no_train_comes(self):
        self.assertEqual(ask(stands(0)), [[0]])
        self.assertEqual(last(begins(), stands(10000)), [0])
        self.assertEqual(last(begins(BOTH, NEITHER), stands(3)), with_rows(0, [], []))

    def test_nothing_is_changed(self):
        told = ask(
            *self.calls, stands(7, 0, 0, 0), stands(4, 0, 0, 0), stands(9, 0, 1, 0), stands(8, 0, 0, 9),
            try_tracks(0, 0, 0), stands(7, 0, 0, 0), come(1, LEFT, [1], [1, 1, 1]), go(1, LEFT, [6]),
        )
        whole = with_rows(6, [2, 0, 1, 3, 4, 5], [], [])
        self.assertEqual(told[7:], [
            whole, with_rows(0, [], [], []), goes_first(1, 2, 2), [-1], [0], whole, [3, 1, 6], [3],
        ])


class MovesThatCannotBeDone(unittest.TestCase):
    def test_of_these_moves(self):
        calls = [begins(BOTH, RIGHT_ONLY), come(5, LEFT, [1, 1], [1, 1]), go(6, LEFT, [1])]
        self.assertEqual(last(*calls, stands(6, 0)), goes_first(0, 3, 0))
        self.assertEqual(last(*calls, stands(10000, 0)), goes_first(0, 3, 0))
        self.assertEqual(last(*calls, stands(5, 1)), comes_first(0, 4, 1))

    def test_a_later_move_does_not_count(self):
        calls = [begins(BOTH, RIGHT_ONLY), come(5, LEFT, [1, 1], [1, 1]), go(6, LEFT, [1])]
        self.assertEqual(last(*calls, stands(5, 0)), with_rows(2, [0, 1], []))
        self.assertEqual(last(*calls, stands(4, 1)), with_rows(0, [], []))

    def test_the_first_one_is_told(self):
        calls = [begins(BOTH), come(9, LEFT, [11], [1]), come(3, LEFT, [1], [0]), go(2, LEFT, [0])]
        self.assertEqual(last(*calls, stands(10, 0, 0)), goes_first(0, 1, 0))
        self.assertEqual(last(*calls, undo(), stands(10, 0, 0)), comes_first(1, 5, 0))
        self.assertEqual(last(*calls, undo(), stands(2, 0, 0)), with_rows(0, []))

    def test_each_reason(self):
        one = come(1, LEFT, [1, 1], [1, 1, 1, 0])
        calls = [begins(BOTH, LEFT_ONLY, RIGHT_ONLY, BOTH), one]
        self.assertEqual(last(*calls, go(1, LEFT, [0]), stands(1, 0)), goes_first(0, 1, 0))
        self.assertEqual(last(*calls, go(2, LEFT, [1, 0]), stands(2, 0)), goes_first(0, 2, 1))
        self.assertEqual(last(*calls, go(2, RIGHT, [0]), stands(2, 0)), goes_first(0, 3, 1))
        self.assertEqual(last(*calls, go(2, RIGHT, [0, 1]), stands(2, 1)), goes_first(0, 4, 1))
        self.assertEqual(last(*calls, stands(1, 2)), comes_first(0, 4, 2))
        self.assertEqual(last(*calls, stands(1, 3)), comes_first(0, 5, 3))
        self.assertEqual(last(*calls, come(2, LEFT, [9], [1] * 4), stands(2, 0, 0)), comes_first(1, 6, 0))


class Refusals(unittest.TestCase):
    def setUp(self):
        self.calls = [begins(BOTH, BOTH), come(0, LEFT, [1], [1, 1]), come(10000, LEFT, [1], [1, 1])]

    def test_a_minute_above_10000(self):
        self.assertEqual(last(*self.calls, stands(10000, 0, 1)), with_rows(2, [0], [1]))
        for minute in (10001, LARGEST):
            self.assertEqual(last(*self.calls, stands(minute, 0, 1)), [-1])
            self.assertEqual(ask(stands(minute)), [[-1]])

    def test_not_one_track_for_each_train_that_comes(self):
        for tracks in ((), (0,), (0, 0, 0), (0,) * 28):
            self.assertEqual(last(*self.calls, stands(10000, *tracks)), [-1])
        self.assertEqual(ask(stands(0, 0)), [[-1]])

    def test_a_train_that_comes_later_needs_a_track_too(self):
        self.assertEqual(last(*self.calls, stands(0, 0)), [-1])
        self.assertEqual(last(*self.calls, stands(0, 0, 2)), [-1])
        self.assertEqual(last(*self.calls, stands(0, 0, 1)), with_rows(1, [0], []))

    def test_a_track_that_is_not_there(self):
        for tracks in ((2, 0), (0, 2), (1, LARGEST), (LARGEST, 1)):
            self.assertEqual(last(*self.calls, stands(10000, *tracks)), [-1])
        self.assertEqual(last(come(0, LEFT, [1], []), stands(0, 0)), [-1])

    def test_though_a_move_cannot_be_done(self):
        calls = [begins(BOTH), come(0, LEFT, [1], [0]), come(1, LEFT, [1], [1])]
        self.assertEqual(last(*calls, stands(1, 0, 0)), comes_first(0, 5, 0))
        for refused in (stands(1, 0, 1), stands(1, 0), stands(10001, 0, 0)):
            self.assertEqual(last(*calls, refused), [-1])


if __name__ == "__main__":
    unittest.main()
