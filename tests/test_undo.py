import unittest

from tests.helper import BOTH, LEFT, RIGHT, ask, begins, come, go, goes_first, last, try_tracks, undo


def two_parts():
    return [begins(BOTH), come(5, LEFT, [1, 1], [4])]


class Undo(unittest.TestCase):
    def test_answers_how_many_go_then(self):
        told = ask(*two_parts(), go(6, LEFT, [0]), go(6, RIGHT, [1]), undo(), undo())
        self.assertEqual(told[4:], [[1], [0]])

    def test_nothing_goes(self):
        self.assertEqual(ask(undo()), [[-2]])
        self.assertEqual(last(*two_parts(), undo()), [-2])
        self.assertEqual(last(*two_parts(), go(6, LEFT, [0]), undo(), undo()), [-2])

    def test_a_refusal_changes_nothing(self):
        told = ask(*two_parts(), undo(), try_tracks(0), go(6, LEFT, [1, 0]), try_tracks(0))
        self.assertEqual(told[2:], [[-2], [3], [0], goes_first(0, 2, 1)])

    def test_the_one_told_last_does_not_go_whatever_its_minute(self):
        told = ask(*two_parts(), go(9, LEFT, [0]), go(1, LEFT, [1]), try_tracks(0), undo(), try_tracks(0))
        self.assertEqual(told[4:], [goes_first(1, 1, 1), [1], [3]])

    def test_its_parts_may_go_otherwise_and_its_number_is_given_again(self):
        told = ask(
            *two_parts(), go(6, LEFT, [0]), go(6, LEFT, [1]), undo(),
            go(7, LEFT, [0, 1]), go(7, LEFT, [1]), try_tracks(0),
        )
        self.assertEqual(told[4:], [[1], [-3], [1], [3]])

    def test_trains_that_come_stay(self):
        told = ask(*two_parts(), go(6, LEFT, [0]), undo(), come(7, LEFT, [1], [1]), try_tracks(0, 0))
        self.assertEqual(told[3:], [[0], [1, 1, 2], [3]])

    def test_behind_twelve_there_is_room_for_one_more(self):
        calls = [come(0, LEFT, [1, 1, 1, 1], [])] * 4 + [go(1, LEFT, [part]) for part in range(12)]
        told = ask(*calls, undo(), go(1, LEFT, [15]), go(1, LEFT, [14]))
        self.assertEqual(told[16:], [[11], [11], [-5]])


if __name__ == "__main__":
    unittest.main()
