import unittest

from platforms.reading import read_calls
from tests.helper import (
    BOTH, LEFT, RIGHT, begins, best, come, fewest, forced, go, joined, stands, try_tracks, undo,
)


def read(*calls):
    return [(call.number, call.numbers, call.rows) for call in read_calls(joined(calls))]


class Reading(unittest.TestCase):
    def test_all_calls(self):
        told = read(
            begins(BOTH), come(7, RIGHT, [1, 2], [3]), undo(), go(8, LEFT, [4, 5]), try_tracks(6), try_tracks(),
            stands(9, 0, 1), best(), stands(9), fewest(), forced(), begins(),
        )
        self.assertEqual(told, [
            (0, [], [[10, 1, 1]]), (1, [7, 1], [[1, 2], [3]]), (3, [], []), (2, [8, 0], [[4, 5]]),
            (4, [], [[6]]), (4, [], [[]]),
            (5, [9], [[0, 1]]), (6, [], []), (5, [9], [[]]), (7, [], []), (8, [], []), (0, [], [[]]),
        ])

    def test_empty_rows(self):
        self.assertEqual(read(come(7, LEFT, [], []), undo()), [(1, [7, 0], [[], []]), (3, [], [])])
        self.assertEqual(read(come(7, LEFT, [], [9]), undo()), [(1, [7, 0], [[], [9]]), (3, [], [])])
        self.assertEqual(read(go(7, LEFT, []), undo()), [(2, [7, 0], [[]]), (3, [], [])])


if __name__ == "__main__":
    unittest.main()
