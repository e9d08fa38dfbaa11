import unittest

from tests.helper import (
    BOTH, LARGEST, LEFT, LEFT_ONLY, NEITHER, RIGHT, RIGHT_ONLY,
    ask, begins, come, comes_first, go, goes_first, last, try_tracks, undo,
)


class Ways(unittest.TestCase):
    def test_no_train_at_all_costs_nothing(self):
        self.assertEqual(ask(try_tracks()), [[0]])
        self.assertEqual(last(begins(BOTH), try_tracks()), [0])

    def test_costs_of_all_trains_together(self):
        calls = [begins(BOTH, BOTH), come(0, LEFT, [1], [1, 1001]), come(0, LEFT, [1], [8, 31])]
        for tracks, cost in (((0, 0), 7), ((0, 1), 30), ((1, 0), 1007), ((1, 1), 1030)):
            self.assertEqual(last(*calls, try_tracks(*tracks)), [cost])

    def test_six_dearest_trains(self):
        calls = [begins(BOTH)] + [come(0, LEFT, [1], [1001])] * 6
        self.assertEqual(last(*calls, try_tracks(0, 0, 0, 0, 0, 0)), [6000])

    def test_six_come_and_twelve_go(self):
        calls = [begins(BOTH)] + [come(0, RIGHT, [1, 1], [2])] * 5 + [come(0, RIGHT, [1, 1], [0])]
        calls += [go(1, LEFT, [part]) for part in range(10)]
        self.assertEqual(last(*calls, try_tracks(0, 0, 0, 0, 0, 0)), comes_first(5, 5, 0))
        calls[6] = come(1, LEFT, [1, 1], [2])
        calls += [go(10000, RIGHT, [11]), go(10000, RIGHT, [10])]
        self.assertEqual(last(*calls, try_tracks(0, 0, 0, 0, 0, 0)), [6])

    def test_a_try_changes_nothing(self):
        calls = [begins(BOTH, LEFT_ONLY), come(0, LEFT, [6], [1, 2]), come(1, LEFT, [6], [3, 4])]
        tries = [try_tracks(0, 1), try_tracks(0, 0), try_tracks(0), try_tracks(1, 0), try_tracks(0, 1)]
        told = ask(*calls, *tries, come(2, LEFT, [1], [1, 1]), go(2, LEFT, [0]))
        self.assertEqual(told[3:], [[3], comes_first(1, 6, 0), [-1], [3], [3], [2, 1, 2], [0]])


class Refusals(unittest.TestCase):
    def test_not_one_track_for_each_train(self):
        calls = [begins(BOTH), come(0, LEFT, [1], [1]), come(0, LEFT, [1], [1])]
        for tracks in ((), (0,), (0, 0, 0), (0,) * 29):
            self.assertEqual(last(*calls, try_tracks(*tracks)), [-1])
        self.assertEqual(ask(try_tracks(0)), [[-1]])

    def test_a_track_that_is_not_there(self):
        calls = [begins(BOTH, BOTH), come(0, LEFT, [1], [1, 1]), come(0, LEFT, [1], [1, 1])]
        for tracks in ((2, 0), (0, 2), (1, LARGEST), (LARGEST, 1)):
            self.assertEqual(last(*calls, try_tracks(*tracks)), [-1])
        self.assertEqual(last(come(0, LEFT, [1], []), try_tracks(0)), [-1])

    def test_a_track_that_is_not_there_counts_though_another_train_cannot_come(self):
        calls = [begins(BOTH), come(0, LEFT, [1], [0]), come(0, LEFT, [1], [1])]
        self.assertEqual(last(*calls, try_tracks(0, 1)), [-1])
        self.assertEqual(last(*calls, try_tracks(0)), [-1])

    def test_two_faults_at_once_are_one_refusal(self):
        self.assertEqual(last(begins(BOTH), come(0, LEFT, [1], [1]), try_tracks(0, 5)), [-1])


class TrainsThatCannotCome(unittest.TestCase):
    def test_5_it_cannot_stand_there(self):
        for side in (LEFT, RIGHT):
            calls = [begins(BOTH, BOTH, BOTH), come(0, side, [1], [1, 2, 0])]
            self.assertEqual(last(*calls, try_tracks(2)), comes_first(0, 5, 2))
            self.assertEqual(last(*calls, try_tracks(1)), [1])

    def test_4_the_track_is_closed_on_that_side(self):
        calls = [begins(LEFT_ONLY, RIGHT_ONLY, NEITHER, BOTH)]
        for side, answered in (
            (LEFT, ([0], comes_first(0, 4, 1), comes_first(0, 4, 2), [0])),
            (RIGHT, (comes_first(0, 4, 0), [0], comes_first(0, 4, 2), [0])),
        ):
            for track in range(4):
                told = last(*calls, come(0, side, [1], [1, 1, 1, 1]), try_tracks(track))
                self.assertEqual(told, answered[track])

    def test_6_the_train_is_longer_than_the_track(self):
        for side in (LEFT, RIGHT):
            for lengths, fits in (([10], True), ([11], False), ([5, 5], True), ([5, 6], False)):
                told = last(begins(BOTH, BOTH), come(0, side, lengths, [1, 1]), try_tracks(1))
                self.assertEqual(told, [0] if fits else comes_first(0, 6, 1))

    def test_6_on_the_shortest_and_the_longest_track(self):
        for track, fits, longer in ((1, [1], [2]), (100, [100], [100, 1]), (100, [25] * 4, [25, 25, 26, 25])):
            self.assertEqual(last(begins((track, 1, 1)), come(0, LEFT, fits, [1]), try_tracks(0)), [0])
            told = last(begins((track, 1, 1)), come(0, LEFT, longer, [1]), try_tracks(0))
            self.assertEqual(told, comes_first(0, 6, 0))

    def test_6_what_stands_there_takes_room(self):
        for side in (LEFT, RIGHT):
            calls = [begins(BOTH, BOTH), come(0, LEFT, [3, 3], [1, 1])]
            self.assertEqual(last(*calls, come(1, side, [4], [1, 1]), try_tracks(1, 1)), [0])
            self.assertEqual(last(*calls, come(1, side, [4, 1], [1, 1]), try_tracks(1, 1)), comes_first(1, 6, 1))
            self.assertEqual(last(*calls, come(1, side, [4, 1], [1, 1]), try_tracks(1, 0)), [0])

    def test_6_a_part_that_never_goes_takes_room(self):
        calls = [begins(BOTH), come(0, LEFT, [5, 5], [1]), go(1, LEFT, [0]), come(2, LEFT, [6], [1])]
        self.assertEqual(last(*calls, try_tracks(0, 0)), comes_first(1, 6, 0))

    def test_6_what_has_gone_takes_none(self):
        calls = [begins(BOTH), come(0, LEFT, [5, 5], [1]), go(1, LEFT, [0]), come(2, LEFT, [5], [1])]
        self.assertEqual(last(*calls, try_tracks(0, 0)), [0])

    def test_of_two_reasons_5_counts_before_4_and_6(self):
        self.assertEqual(last(begins(NEITHER), come(0, LEFT, [1], [0]), try_tracks(0)), comes_first(0, 5, 0))
        self.assertEqual(last(begins(BOTH), come(0, LEFT, [11], [0]), try_tracks(0)), comes_first(0, 5, 0))

    def test_of_two_reasons_4_counts_before_6(self):
        self.assertEqual(last(begins(RIGHT_ONLY), come(0, LEFT, [11], [1]), try_tracks(0)), comes_first(0, 4, 0))


class TrainsThatCannotGo(unittest.TestCase):
    def row_of_four(self, track=BOTH):
        return [begins(BOTH, track), come(5, LEFT if track[1] else RIGHT, [1, 2, 1, 2], [1, 1])]

    def test_1_a_part_has_not_come(self):
        for side in (LEFT, RIGHT):
            told = last(*self.row_of_four(), go(4, side, [0, 1, 2, 3]), try_tracks(1))
            self.assertEqual(told, goes_first(0, 1, 0))

    def test_1_the_first_such_part_in_the_order_told(self):
        calls = self.row_of_four() + [come(9, LEFT, [1, 1], [1, 1])]
        self.assertEqual(last(*calls, go(6, LEFT, [5, 4, 0]), try_tracks(1, 1)), goes_first(0, 1, 5))
        self.assertEqual(last(*calls, go(6, LEFT, [0, 4, 5]), try_tracks(1, 1)), goes_first(0, 1, 4))
        self.assertEqual(last(*calls, go(6, RIGHT, [0, 1, 5, 4]), try_tracks(1, 1)), goes_first(0, 1, 5))

    def test_2_another_row(self):
        for side in (LEFT, RIGHT):
            for parts in ([1, 0], [0, 1, 3, 2], [3, 2, 1, 0]):
                told = last(*self.row_of_four(), go(6, side, parts), try_tracks(1))
                self.assertEqual(told, goes_first(0, 2, parts[0]))

    def test_2_something_between(self):
        for side in (LEFT, RIGHT):
            for parts in ([0, 2], [1, 3], [0, 1, 3], [0, 3]):
                told = last(*self.row_of_four(), go(6, side, parts), try_tracks(1))
                self.assertEqual(told, goes_first(0, 2, parts[0]))

    def test_2_on_two_tracks(self):
        calls = [begins(BOTH, BOTH), come(0, LEFT, [1], [1, 1]), come(0, RIGHT, [1], [1, 1]), go(1, LEFT, [0, 1])]
        self.assertEqual(last(*calls, try_tracks(0, 0)), [0])
        self.assertEqual(last(*calls, try_tracks(1, 1)), [0])
        self.assertEqual(last(*calls, try_tracks(0, 1)), goes_first(0, 2, 0))
        self.assertEqual(last(*calls, try_tracks(1, 0)), goes_first(0, 2, 0))

    def test_3_the_part_next_to_it_on_the_left(self):
        for parts, ahead in (([1], 0), ([2], 1), ([2, 3], 1), ([3], 2), ([1, 2], 0)):
            told = last(*self.row_of_four(), go(6, LEFT, parts), try_tracks(1))
            self.assertEqual(told, goes_first(0, 3, ahead))

    def test_3_the_part_next_to_it_on_the_right(self):
        for parts, ahead in (([0], 1), ([1], 2), ([0, 1], 2), ([2], 3), ([1, 2], 3)):
            told = last(*self.row_of_four(), go(6, RIGHT, parts), try_tracks(1))
            self.assertEqual(told, goes_first(0, 3, ahead))

    def test_3_a_part_of_another_train(self):
        calls = [begins(BOTH), come(0, LEFT, [1], [1]), come(1, LEFT, [1, 1], [1])]
        self.assertEqual(last(*calls, go(2, LEFT, [0]), try_tracks(0, 0)), goes_first(0, 3, 2))
        self.assertEqual(last(*calls, go(2, RIGHT, [1, 2]), try_tracks(0, 0)), goes_first(0, 3, 0))

    def test_4_the_track_is_closed_on_that_side(self):
        self.assertEqual(
            last(*self.row_of_four(RIGHT_ONLY), go(6, LEFT, [0, 1]), try_tracks(1)), goes_first(0, 4, 1)
        )
        self.assertEqual(
            last(*self.row_of_four(LEFT_ONLY), go(6, RIGHT, [2, 3]), try_tracks(1)), goes_first(0, 4, 1)
        )

    def test_both_ends_and_all_at_once_can_go(self):
        for side, parts in ((LEFT, [0]), (LEFT, [0, 1, 2]), (RIGHT, [3]), (RIGHT, [1, 2, 3])):
            self.assertEqual(last(*self.row_of_four(), go(6, side, parts), try_tracks(1)), [0])
        for track, side in ((LEFT_ONLY, LEFT), (RIGHT_ONLY, RIGHT), (BOTH, LEFT), (BOTH, RIGHT)):
            self.assertEqual(last(*self.row_of_four(track), go(6, side, [0, 1, 2, 3]), try_tracks(1)), [0])

    def test_of_two_reasons_1_counts_before_2_3_and_4(self):
        calls = self.row_of_four(LEFT_ONLY) + [come(9, LEFT, [1], [1, 1])]
        self.assertEqual(last(*calls, go(6, RIGHT, [1, 0, 4]), try_tracks(1, 1)), goes_first(0, 1, 4))
        self.assertEqual(last(*calls, go(6, RIGHT, [0, 4]), try_tracks(1, 1)), goes_first(0, 1, 4))

    def test_of_two_reasons_2_counts_before_3_and_4(self):
        self.assertEqual(last(*self.row_of_four(), go(6, LEFT, [2, 1]), try_tracks(1)), goes_first(0, 2, 2))
        self.assertEqual(last(*self.row_of_four(LEFT_ONLY), go(6, RIGHT, [1, 3]), try_tracks(1)), goes_first(0, 2, 1))

    def test_of_two_reasons_3_counts_before_4(self):
        self.assertEqual(last(*self.row_of_four(LEFT_ONLY), go(6, RIGHT, [0]), try_tracks(1)), goes_first(0, 3, 1))
        self.assertEqual(last(*self.row_of_four(RIGHT_ONLY), go(6, LEFT, [3]), try_tracks(1)), goes_first(0, 3, 2))


class Rows(unittest.TestCase):
    def test_who_comes_stands_ahead_of_all_others_on_that_side(self):
        calls = [
            begins(BOTH), come(0, LEFT, [1, 1], [1]), come(1, LEFT, [1, 1], [1]), come(2, RIGHT, [1, 1], [1]),
            go(3, LEFT, [2, 3, 0, 1, 4, 5]),
        ]
        self.assertEqual(last(*calls, try_tracks(0, 0, 0)), [0])

    def test_parted_and_put_together(self):
        calls = [
            begins(BOTH), come(0, LEFT, [1, 1], [1]), come(1, RIGHT, [1, 1], [1]),
            go(2, LEFT, [0]), go(3, RIGHT, [3]), go(4, RIGHT, [1, 2]),
        ]
        self.assertEqual(last(*calls, try_tracks(0, 0)), [0])

    def test_what_has_gone_stands_between_nobody(self):
        calls = [begins(BOTH), come(0, LEFT, [1], [1]), come(1, LEFT, [1], [1]), go(2, LEFT, [1])]
        self.assertEqual(last(*calls, come(3, LEFT, [1], [1]), go(4, LEFT, [2, 0]), try_tracks(0, 0, 0)), [0])

    def test_a_part_that_never_goes_stands_in_the_way(self):
        calls = [begins(BOTH), come(0, LEFT, [1, 1, 1], [1]), go(1, LEFT, [0]), go(2, LEFT, [2])]
        self.assertEqual(last(*calls, try_tracks(0)), goes_first(1, 3, 1))
        self.assertEqual(last(*calls, undo(), go(2, RIGHT, [2]), try_tracks(0)), [0])


class Order(unittest.TestCase):
    def test_by_minutes_not_by_numbers(self):
        calls = [begins(BOTH), come(9, LEFT, [1], [1]), come(3, LEFT, [1], [1])]
        self.assertEqual(last(*calls, go(10, LEFT, [0, 1]), try_tracks(0, 0)), [0])
        self.assertEqual(last(*calls, go(10, LEFT, [1, 0]), try_tracks(0, 0)), goes_first(0, 2, 1))

    def test_the_first_move_that_cannot_be_done_is_told(self):
        calls = [begins(NEITHER), come(9, LEFT, [1], [1]), come(3, LEFT, [1], [0])]
        self.assertEqual(last(*calls, try_tracks(0, 0)), comes_first(1, 5, 0))
        self.assertEqual(last(*calls, go(2, LEFT, [0]), go(1, LEFT, [1]), try_tracks(0, 0)), goes_first(1, 1, 1))

    def test_of_one_minute_those_that_go_are_first(self):
        calls = [begins(BOTH), come(0, LEFT, [10], [1]), come(5, LEFT, [10], [1])]
        self.assertEqual(last(*calls, go(5, RIGHT, [0]), try_tracks(0, 0)), [0])
        self.assertEqual(last(*calls, go(6, RIGHT, [0]), try_tracks(0, 0)), comes_first(1, 6, 0))

    def test_a_train_cannot_go_in_the_minute_in_which_it_comes(self):
        calls = [begins(BOTH), come(5, LEFT, [1], [1])]
        self.assertEqual(last(*calls, go(5, LEFT, [0]), try_tracks(0)), goes_first(0, 1, 0))
        self.assertEqual(last(*calls, go(6, LEFT, [0]), try_tracks(0)), [0])

    def test_in_one_minute_a_part_that_has_not_come_counts_before_who_cannot_come(self):
        calls = [begins(NEITHER), come(5, LEFT, [1], [1]), go(5, LEFT, [0])]
        self.assertEqual(last(*calls, try_tracks(0)), goes_first(0, 1, 0))

    def test_of_one_minute_those_that_come_are_by_their_numbers(self):
        calls = [begins(BOTH), come(5, LEFT, [1], [1]), come(5, LEFT, [1], [1]), come(5, LEFT, [1], [1])]
        self.assertEqual(last(*calls, go(6, LEFT, [2, 1, 0]), try_tracks(0, 0, 0)), [0])
        self.assertEqual(last(*calls, come(5, LEFT, [8], [1]), try_tracks(0, 0, 0, 0)), comes_first(3, 6, 0))

    def test_of_one_minute_those_that_go_are_by_their_numbers(self):
        calls = [begins(BOTH), come(5, LEFT, [1, 1, 1], [1])]
        ahead = [go(6, LEFT, [0]), go(6, LEFT, [1]), go(6, LEFT, [2])]
        self.assertEqual(last(*calls, *ahead, try_tracks(0)), [0])
        self.assertEqual(last(*calls, *reversed(ahead), try_tracks(0)), goes_first(0, 3, 1))

    def test_the_earliest_and_the_latest_minute(self):
        calls = [begins(BOTH), come(0, LEFT, [1, 1], [1]), go(10000, LEFT, [1]), go(9999, LEFT, [0])]
        self.assertEqual(last(*calls, try_tracks(0)), [0])
        self.assertEqual(last(*calls[:3], go(0, LEFT, [0]), try_tracks(0)), goes_first(1, 1, 0))


if __name__ == "__main__":
    unittest.main()
