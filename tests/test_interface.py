import unittest

from platforms.station import answers
from tests.helper import (
    BOTH, LARGEST, LEFT, LEFT_ONLY, RIGHT, ask, begins, come, comes_first, go, goes_first, joined, try_tracks, undo,
)

ALL_FIVE = joined([
    begins(BOTH, LEFT_ONLY),
    come(1, LEFT, [3, 4], [6, 0]),
    come(2, RIGHT, [4], [1, 2]),
    go(3, LEFT, [0, 1]),
    try_tracks(0, 1),
    try_tracks(0, 0),
    try_tracks(0),
    undo(),
    undo(),
    begins((0, 1, 1)),
    go(3, LEFT, [1]),
    try_tracks(1, 1),
])


class Unchangeable(list):
    def refuse(self, *given):
        raise AssertionError("what is handed in was changed")

    append = clear = extend = insert = pop = remove = reverse = sort = refuse
    __setitem__ = __delitem__ = __iadd__ = __imul__ = refuse


class Interface(unittest.TestCase):
    def test_numbers_as_they_are_handed_in_and_given_back(self):
        told = answers([
            0, 6, 10, 1, 1, 10, 1, 0,
            1, 1, 0, 2, 3, 4, 2, 6, 0,
            1, 2, 1, 1, 4, 2, 1, 2,
            2, 3, 0, 2, 0, 1,
            4, 2, 0, 1,
            3,
            4, 1, 0,
        ])
        self.assertEqual(told, [1, 2, 4, 0, 2, 0, 1, 3, 1, 1, 2, 1, 0, 7, -6, 2, 0, 1, 2, 4, 1, 1, 0, 1, -1])

    def test_several_calls_on_one_object(self):
        told = answers(ALL_FIVE)
        self.assertEqual(told, joined([
            [1, 2], [4, 0, 2, 0, 1], [3, 1, 1, 2], [1, 0],
            [7] + comes_first(1, 4, 1), [7] + comes_first(1, 6, 0), [1, -1],
            [1, 0], [1, -2], [1, -1], [1, 0], [7] + comes_first(0, 5, 1),
        ]))

    def test_one_call_alone(self):
        for call, told in (
            (begins(), [1, 0]),
            (come(0, LEFT, [1, 1], []), [4, 0, 2, 0, 1]),
            (go(0, LEFT, [0]), [1, -2]),
            (undo(), [1, -2]),
            (try_tracks(), [1, 0]),
        ):
            self.assertEqual(answers(call), told)

    def test_longest_rows(self):
        told = ask(
            begins(*[(LARGEST, 1, 1)] * 9),
            come(LARGEST, RIGHT, [LARGEST] * 26, []),
            come(0, LEFT, [], [LARGEST] * 26),
            go(LARGEST, RIGHT, [LARGEST] * 27),
            try_tracks(*[LARGEST] * 29),
            begins(BOTH),
        )
        self.assertEqual(told, [[-1], [-1], [-1], [-1], [-1], [1]])

    def test_sixty_calls(self):
        calls = [begins(BOTH), come(0, LEFT, [1], [3]), go(0, LEFT, [0])] + [try_tracks(0)] * 57
        self.assertEqual(ask(*calls), [[1], [0, 1, 0], [0]] + [goes_first(0, 1, 0)] * 57)

    def test_whole_numbers_in_a_list(self):
        told = answers(ALL_FIVE)
        self.assertIs(type(told), list)
        for number in told:
            self.assertIs(type(number), int)

    def test_what_is_handed_in_is_not_changed(self):
        handed_in = Unchangeable(ALL_FIVE)
        answers(handed_in)
        self.assertEqual(handed_in, ALL_FIVE)

    def test_what_is_given_back_is_another_list(self):
        handed_in = list(ALL_FIVE)
        told = answers(handed_in)
        told.clear()
        self.assertEqual(handed_in, ALL_FIVE)

    def test_nothing_is_kept_from_one_time_to_the_next(self):
        first = answers(ALL_FIVE)
        self.assertEqual(answers(ALL_FIVE), first)
        self.assertEqual(ask(undo()), [[-2]])
        self.assertEqual(ask(come(0, LEFT, [1], [])), [[0, 1, 0]])
        first.clear()
        self.assertNotEqual(answers(ALL_FIVE), first)


if __name__ == "__main__":
    unittest.main()
