import unittest

from tests.helper import BOTH, LARGEST, LEFT, RIGHT, ask, begins, come, go, last, try_tracks


def on_one_track(minute=0, lengths=(1,), costs=(1,)):
    return last(begins(BOTH), come(minute, LEFT, list(lengths), list(costs)))


def six_trains():
    return [begins(BOTH)] + [come(0, LEFT, [1], [1])] * 6


class Come(unittest.TestCase):
    def test_answers_its_number_and_its_parts(self):
        told = ask(
            begins(BOTH, BOTH),
            come(5, LEFT, [3, 4], [1, 2]),
            come(1, RIGHT, [9], [0, 0]),
            come(5, LEFT, [1, 2, 3, 4], [0, 1]),
        )
        self.assertEqual(told, [[2], [0, 2, 0, 1], [1, 1, 2], [2, 4, 3, 4, 5, 6]])

    def test_minutes_up_to_10000(self):
        for minute in (0, 1, 9999, 10000):
            self.assertEqual(on_one_track(minute=minute), [0, 1, 0])

    def test_later_minutes_are_refused(self):
        for minute in (10001, LARGEST):
            self.assertEqual(on_one_track(minute=minute), [-1])

    def test_one_to_four_parts(self):
        for many in (1, 2, 3, 4):
            self.assertEqual(on_one_track(lengths=[1] * many), [0, many] + list(range(many)))

    def test_no_part_and_more_than_four_are_refused(self):
        for many in (0, 5, 25):
            self.assertEqual(on_one_track(lengths=[1] * many), [-1])

    def test_lengths_from_1_to_100(self):
        for length in (1, 2, 99, 100):
            self.assertEqual(on_one_track(lengths=[length]), [0, 1, 0])

    def test_other_lengths_are_refused(self):
        for length in (0, 101, LARGEST):
            self.assertEqual(on_one_track(lengths=[length]), [-1])
            self.assertEqual(on_one_track(lengths=[1, 1, 1, length]), [-1])
            self.assertEqual(on_one_track(lengths=[length, 1, 1, 1]), [-1])

    def test_a_train_may_be_longer_than_any_track(self):
        self.assertEqual(on_one_track(lengths=[100, 100, 100, 100]), [0, 4, 0, 1, 2, 3])

    def test_costs_from_0_to_1000_or_that_it_cannot_stand(self):
        for cost in (0, 1, 2, 1000, 1001):
            self.assertEqual(on_one_track(costs=[cost]), [0, 1, 0])

    def test_higher_costs_are_refused(self):
        for cost in (1002, LARGEST):
            self.assertEqual(on_one_track(costs=[cost]), [-1])

    def test_any_cost_that_is_too_high_is_refused(self):
        for place in range(4):
            costs = [0] * 4
            costs[place] = 1002
            self.assertEqual(last(begins(*[BOTH] * 4), come(0, LEFT, [1], costs)), [-1])

    def test_one_cost_for_each_track(self):
        for tracks in range(5):
            for costs in (0, 1, 2, 3, 4, 5, 25):
                told = last(begins(*[BOTH] * tracks), come(0, LEFT, [1], [1] * costs))
                self.assertEqual(told, [0, 1, 0] if costs == tracks else [-1])

    def test_six_trains_and_one_more(self):
        told = ask(*six_trains(), come(0, LEFT, [1], [1]))
        self.assertEqual(told, [[1]] + [[number, 1, number] for number in range(6)] + [[-5]])

    def test_six_trains_that_cannot_stand_anywhere_and_one_more(self):
        told = ask(*[come(0, LEFT, [1, 1, 1, 1], [])] * 7)
        self.assertEqual(told[5:], [[5, 4, 20, 21, 22, 23], [-5]])

    def test_what_is_wrong_counts_before_too_many(self):
        wrong = (
            come(10001, LEFT, [1], [1]),
            come(0, LEFT, [], [1]),
            come(0, LEFT, [1] * 5, [1]),
            come(0, LEFT, [0], [1]),
            come(0, LEFT, [101], [1]),
            come(0, LEFT, [1], []),
            come(0, LEFT, [1], [1, 1]),
            come(0, LEFT, [1], [1002]),
        )
        for call in wrong:
            self.assertEqual(last(*six_trains(), call), [-1])

    def test_two_faults_at_once_are_one_refusal(self):
        self.assertEqual(on_one_track(minute=10001, lengths=[0], costs=[]), [-1])

    def test_a_wrong_one_changes_nothing(self):
        wrong = (
            come(10001, LEFT, [1], [1]),
            come(0, LEFT, [1] * 5, [1]),
            come(0, LEFT, [1, 0], [1]),
            come(0, LEFT, [1], [1, 1]),
            come(0, LEFT, [1], [1002]),
        )
        for call in wrong:
            told = ask(
                begins(BOTH), come(0, LEFT, [4], [6]), call, go(1, LEFT, [1]), try_tracks(0), come(1, LEFT, [6], [1])
            )
            self.assertEqual(told[2:], [[-1], [-2], [5], [1, 1, 1]])

    def test_one_too_many_changes_nothing(self):
        told = ask(*six_trains(), come(0, LEFT, [5], [9]), go(1, LEFT, [6]), try_tracks(0, 0, 0, 0, 0, 0))
        self.assertEqual(told[7:], [[-5], [-2], [0]])


if __name__ == "__main__":
    unittest.main()
