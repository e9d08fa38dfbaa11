import unittest

from tests.helper import BOTH, LARGEST, LEFT, RIGHT, ask, begins, come, go, last, try_tracks, undo


def four_parts():
    return [begins(BOTH), come(0, LEFT, [1, 1, 1, 1], [1])]


def twelve_go():
    return four_parts() + [come(0, LEFT, [1, 1, 1, 1], [1])] * 3 + [go(1, LEFT, [part]) for part in range(12)]


class Go(unittest.TestCase):
    def test_answers_its_number(self):
        told = ask(*four_parts(), go(3, LEFT, [0]), go(1, RIGHT, [2, 3]), go(2, LEFT, [1]))
        self.assertEqual(told[2:], [[0], [1], [2]])

    def test_parts_of_several_trains_in_any_row(self):
        told = last(*four_parts(), come(1, LEFT, [1, 1], [1]), go(2, LEFT, [5, 0, 4, 3, 1, 2]))
        self.assertEqual(told, [0])

    def test_minutes_up_to_10000(self):
        for minute in (0, 1, 9999, 10000):
            self.assertEqual(last(*four_parts(), go(minute, LEFT, [0])), [0])

    def test_later_minutes_are_refused(self):
        for minute in (10001, LARGEST):
            self.assertEqual(last(*four_parts(), go(minute, LEFT, [0])), [-1])

    def test_no_part_is_refused(self):
        self.assertEqual(last(*four_parts(), go(1, LEFT, [])), [-1])
        self.assertEqual(last(go(1, LEFT, [])), [-1])

    def test_a_part_twice_is_refused(self):
        for parts in ([0, 0], [1, 2, 1], [3, 0, 1, 2, 3]):
            self.assertEqual(last(*four_parts(), go(1, LEFT, parts)), [-1])

    def test_a_part_that_is_not_there_is_refused(self):
        for parts in ([4], [LARGEST], [0, 4], [4, 0], [0, LARGEST, 1]):
            self.assertEqual(last(*four_parts(), go(1, LEFT, parts)), [-2])

    def test_without_trains_there_is_no_part(self):
        self.assertEqual(ask(go(1, LEFT, [0])), [[-2]])
        self.assertEqual(last(begins(BOTH), go(1, LEFT, [0])), [-2])

    def test_a_part_that_goes_already_is_refused(self):
        for parts in ([1], [2], [0, 1], [2, 3], [2, 1]):
            self.assertEqual(last(*four_parts(), go(1, LEFT, [1, 2]), go(2, LEFT, parts)), [-3])

    def test_a_part_goes_already_at_any_number(self):
        calls = four_parts() + [go(1, LEFT, [0]), go(1, LEFT, [1]), go(1, LEFT, [2])]
        for part in (0, 1, 2):
            self.assertEqual(last(*calls, go(1, LEFT, [part])), [-3])

    def test_twelve_and_one_more(self):
        told = ask(*twelve_go(), go(1, LEFT, [12]))
        self.assertEqual(told[5:], [[number] for number in range(12)] + [[-5]])

    def test_all_parts_that_can_be_go_at_once(self):
        told = last(*[come(0, LEFT, [1, 1, 1, 1], [])] * 6, go(1, LEFT, list(range(24))))
        self.assertEqual(told, [0])

    def test_what_is_wrong_counts_first(self):
        self.assertEqual(last(*four_parts(), go(10001, LEFT, [4])), [-1])
        self.assertEqual(last(*four_parts(), go(1, LEFT, [4, 4])), [-1])
        self.assertEqual(last(*twelve_go(), go(10001, LEFT, [12])), [-1])
        self.assertEqual(last(*twelve_go(), go(1, LEFT, [])), [-1])
        self.assertEqual(last(*four_parts(), go(1, LEFT, [0]), go(1, LEFT, [0, 0])), [-1])
        self.assertEqual(last(*four_parts(), go(1, LEFT, [0]), go(10001, LEFT, [0])), [-1])

    def test_not_there_counts_before_too_many_and_before_goes_already(self):
        self.assertEqual(last(*twelve_go(), go(1, LEFT, [16])), [-2])
        self.assertEqual(last(*four_parts(), go(1, LEFT, [0]), go(1, LEFT, [0, 4])), [-2])

    def test_too_many_counts_before_goes_already(self):
        self.assertEqual(last(*twelve_go(), go(1, LEFT, [0])), [-5])

    def test_a_refusal_changes_nothing(self):
        wrong = (
            (go(10001, LEFT, [1]), -1),
            (go(2, LEFT, [1, 1]), -1),
            (go(2, LEFT, [1, 4]), -2),
            (go(2, LEFT, [1, 0]), -3),
        )
        for call, refusal in wrong:
            told = ask(*four_parts(), go(1, LEFT, [0]), call, try_tracks(0), go(2, LEFT, [1]), undo())
            self.assertEqual(told[3:], [[refusal], [0], [1], [1]])

    def test_one_too_many_changes_nothing(self):
        told = ask(*twelve_go(), go(1, LEFT, [12]), undo(), go(1, LEFT, [12]))
        self.assertEqual(told[17:], [[-5], [11], [11]])


if __name__ == "__main__":
    unittest.main()
