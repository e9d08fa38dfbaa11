import unittest

from tests.helper import BOTH, LARGEST, LEFT, RIGHT, ask, begins, come, go, last, try_tracks, undo


class Begins(unittest.TestCase):
    def test_answers_how_many_tracks(self):
        for many in range(5):
            self.assertEqual(ask(begins(*[BOTH] * many)), [[many]])

    def test_more_than_four_tracks_are_refused(self):
        for many in (5, 6, 9):
            self.assertEqual(ask(begins(*[BOTH] * many)), [[-1]])

    def test_lengths_from_1_to_100(self):
        for length in (1, 2, 99, 100):
            self.assertEqual(ask(begins((length, 0, 1))), [[1]])

    def test_other_lengths_are_refused(self):
        for length in (0, 101, LARGEST):
            self.assertEqual(ask(begins((length, 1, 1))), [[-1]])

    def test_any_track_of_a_wrong_length_is_refused(self):
        for place in range(4):
            tracks = [BOTH] * 4
            tracks[place] = (101, 1, 1)
            self.assertEqual(ask(begins(*tracks)), [[-1]])

    def test_two_faults_at_once_are_one_refusal(self):
        self.assertEqual(ask(begins(BOTH, BOTH, BOTH, BOTH, (0, 1, 1))), [[-1]])

    def test_at_the_beginning_there_are_no_tracks(self):
        self.assertEqual(ask(come(0, LEFT, [1], [])), [[0, 1, 0]])
        self.assertEqual(ask(come(0, LEFT, [1], [1])), [[-1]])

    def test_in_the_middle_nothing_comes_or_goes_then(self):
        told = ask(
            begins(BOTH, BOTH),
            come(1, LEFT, [1, 2], [1, 1]),
            go(2, LEFT, [0]),
            begins(BOTH),
            undo(),
            try_tracks(),
            go(3, LEFT, [0]),
            come(4, RIGHT, [3], [8]),
            go(5, LEFT, [0]),
            try_tracks(0),
        )
        self.assertEqual(told, [[2], [0, 2, 0, 1], [0], [1], [-2], [0], [-2], [0, 1, 0], [0], [7]])

    def test_in_the_middle_the_lengths_of_parts_are_told_anew(self):
        told = last(
            begins((5, 1, 1)), come(0, LEFT, [6], [1]), begins((5, 1, 1)), come(0, LEFT, [5], [1]), try_tracks(0)
        )
        self.assertEqual(told, [0])

    def test_a_refusal_changes_nothing(self):
        for wrong in (begins((0, 1, 1)), begins(*[BOTH] * 5), begins(BOTH, (101, 1, 1))):
            told = ask(
                begins((5, 1, 1), (6, 1, 1)),
                come(1, LEFT, [6], [3, 4]),
                go(2, LEFT, [0]),
                wrong,
                try_tracks(1),
                come(3, LEFT, [1], [1, 1]),
                undo(),
            )
            self.assertEqual(told[3:], [[-1], [3], [1, 1, 1], [0]])


if __name__ == "__main__":
    unittest.main()
