import unittest

from platforms.station import answers
from tests.helper import (
    BOTH, LARGEST, LEFT, LEFT_ONLY, RIGHT, RIGHT_ONLY, ask, begins, best, come, comes_first, fewest, forced,
    go, goes_first, joined, stands, try_tracks, undo, with_rows,
)

ALL_NINE = joined([
    begins(BOTH, LEFT_ONLY),
    come(1, LEFT, [3, 4], [6, 0]),
    come(2, RIGHT, [4], [1, 2]),
    go(3, LEFT, [0, 1]),
    try_tracks(0, 1),
    try_tracks(0, 0),
    try_tracks(0),
    stands(2, 0, 1),
    stands(1, 0, 0),
    best(),
    undo(),
    undo(),
    begins((0, 1, 1)),
    go(3, LEFT, [1]),
    try_tracks(1, 1),
    fewest(),
    stands(10001, 0, 0),
    begins(BOTH, RIGHT_ONLY),
    best(),
    forced(),
    come(4, RIGHT, [3], [9, 5]),
    go(5, LEFT, [3]),
    best(),
    fewest(),
    come(6, LEFT, [5, 5], [3, 1]),
    forced(),
    go(4, LEFT, [0]),
    forced(),
])


class Unchangeable(list):
    def refuse(self, *given):
        raise AssertionError("what is handed in was changed")

    append = clear = extend = insert = pop = remove = reverse = sort = refuse
    __setitem__ = __delitem__ = __iadd__ = __imul__ = refuse


class Interface(unittest.TestCase):
    def test_numbers_as_they_are_handed_in_and_given_back(self):
        told = answers([
            0, 6, 10, 1, 1, 10, 1, 0,
            1, 1, 0, 2, 3, 4, 2, 6, 0,
            1, 2, 1, 1, 4, 2, 1, 2,
            2, 3, 0, 2, 0, 1,
            4, 2, 0, 1,
            3,
            4, 1, 0,
        ])
        self.assertEqual(told, [1, 2, 4, 0, 2, 0, 1, 3, 1, 1, 2, 1, 0, 7, -6, 2, 0, 1, 2, 4, 1, 1, 0, 1, -1])

    def test_numbers_of_the_last_four_calls(self):
        told = answers([
            0, 6, 10, 1, 1, 10, 1, 0,
            1, 5, 0, 2, 3, 4, 2, 6, 0,
            1, 6, 0, 1, 3, 2, 3, 3,
            5, 5, 2, 0, 1,
            5, 6, 2, 1, 1,
            6,
            7,
            8,
        ])
        self.assertEqual(told, [
            1, 2,
            4, 0, 2, 0, 1,
            3, 1, 1, 2,
            5, 2, 2, 0, 1, 0,
            7, -6, 2, 0, 0, 2, 5, 1,
            7, 7, 2, 2, 2, 2, 0, 0,
            6, 1, 1, 7, 2, 0, 0,
            4, 1, 2, 0, 0,
        ])

    def test_several_calls_on_one_object(self):
        told = answers(ALL_NINE)
        self.assertEqual(told, joined([
            [1, 2], [4, 0, 2, 0, 1], [3, 1, 1, 2], [1, 0],
            [7] + comes_first(1, 4, 1), [7] + comes_first(1, 6, 0), [1, -1],
            [7] + comes_first(1, 4, 1), [5] + with_rows(2, [0, 1], []), [1, -6],
            [1, 0], [1, -2], [1, -1], [1, 0], [7] + comes_first(0, 5, 1), [1, -6], [1, -1],
            [1, 2], [5] + with_rows(0, [1, 1], []), [1, 0], [3] + with_rows(0, [0]), [1, -2],
            [6] + with_rows(4, [2, 1], [1]), [5] + with_rows(1, [4], [1]), [4] + with_rows(1, [1, 2]),
            [7] + with_rows(2, [0, 1], [1, 0]), [1, 0], [1, -6],
        ]))

    def test_one_call_alone(self):
        for call, told in (
            (begins(), [1, 0]),
            (come(0, LEFT, [1, 1], []), [4, 0, 2, 0, 1]),
            (go(0, LEFT, [0]), [1, -2]),
            (undo(), [1, -2]),
            (try_tracks(), [1, 0]),
            (stands(0), [1, 0]),
            (best(), [5, 0, 2, 1, 1, 0]),
            (fewest(), [4, 0, 1, 0, 0]),
            (forced(), [1, 0]),
        ):
            self.assertEqual(answers(call), told)

    def test_longest_rows(self):
        told = ask(
            begins(*[(LARGEST, 1, 1)] * 9),
            come(LARGEST, RIGHT, [LARGEST] * 26, []),
            come(0, LEFT, [], [LARGEST] * 26),
            go(LARGEST, RIGHT, [LARGEST] * 27),
            try_tracks(*[LARGEST] * 29),
            stands(LARGEST, *[LARGEST] * 28),
            begins(BOTH),
        )
        self.assertEqual(told, [[-1], [-1], [-1], [-1], [-1], [-1], [1]])

    def test_sixty_calls(self):
        calls = [begins(BOTH), come(0, LEFT, [1], [3]), go(0, LEFT, [0])] + [try_tracks(0)] * 57
        self.assertEqual(ask(*calls), [[1], [0, 1, 0], [0]] + [goes_first(0, 1, 0)] * 57)

    def test_any_order(self):
        calls = [
            forced(), fewest(), best(), stands(0), try_tracks(), undo(), go(0, LEFT, [0]), come(0, LEFT, [1], []),
            begins(),
        ]
        answered = [[0], [0, 1, 0, 0], [0, 2, 1, 1, 0], [0], [0], [-2], [-2], [0, 1, 0], [0]]
        self.assertEqual(ask(*calls), answered)
        self.assertEqual(ask(*calls, *calls), answered + answered)

    def test_refusals_change_nothing(self):
        calls = [
            begins(BOTH, RIGHT_ONLY), come(1, RIGHT, [2, 3], [2, 3]), come(2, RIGHT, [4], [5, 1]), go(3, RIGHT, [1]),
        ]
        refused = [
            begins((101, 1, 1)), begins(*[BOTH] * 5), come(10001, LEFT, [1], [1, 1]), come(0, LEFT, [], [1, 1]),
            come(0, LEFT, [1], [1]), go(10001, LEFT, [0]), go(4, LEFT, [0, 0]), go(4, LEFT, [3]), go(4, LEFT, [0, 1]),
            try_tracks(0), try_tracks(0, 2), stands(10001, 0, 0), stands(3, 0), stands(3, 0, 2),
        ]
        asked = [
            try_tracks(0, 0), try_tracks(0, 1), stands(2, 1, 1), stands(3, 1, 0), best(), fewest(), forced(),
            undo(), try_tracks(0, 0), undo(),
        ]
        told = ask(*calls, *refused, *asked)[4:]
        self.assertEqual(told[:14], [[-1]] * 7 + [[-2], [-3]] + [[-1]] * 5)
        self.assertEqual(told[14:], ask(*calls, *asked)[4:])
        self.assertEqual(told[14:], [
            goes_first(0, 3, 2), [1], with_rows(3, [], [0, 1, 2]), with_rows(2, [2], [0]),
            with_rows(1, [2, 1], [0, 1]), with_rows(2, [1], [0, 1]), [0], [0], [5], [-2],
        ])

    def test_a_second_begins_leaves_nothing(self):
        first = [begins(BOTH), come(0, LEFT, [6], [4]), come(1, LEFT, [6], [4]), go(2, LEFT, [0])]
        second = [
            begins(LEFT_ONLY, BOTH), best(), fewest(), forced(), stands(9), undo(), go(2, LEFT, [0]), try_tracks(),
            come(3, LEFT, [7, 1], [2, 1]), best(), fewest(), forced(), stands(3, 1), stands(2, 1), try_tracks(0),
        ]
        self.assertEqual(ask(*first, best(), *second)[5:], ask(*second))
        self.assertEqual(ask(*second), [
            [2], with_rows(0, [1, 1], []), with_rows(0, [0], []), [0], with_rows(0, [], []), [-2], [-2], [0],
            [0, 2, 0, 1], with_rows(0, [2, 1], [1]), with_rows(1, [0], [1]), [0],
            with_rows(2, [], [0, 1]), with_rows(0, [], []), [1],
        ])

    def test_whole_numbers_in_a_list(self):
        told = answers(ALL_NINE)
        self.assertIs(type(told), list)
        for number in told:
            self.assertIs(type(number), int)

    def test_what_is_handed_in_is_not_changed(self):
        handed_in = Unchangeable(ALL_NINE)
        answers(handed_in)
        self.assertEqual(handed_in, ALL_NINE)

    def test_what_is_given_back_is_another_list(self):
        handed_in = list(ALL_NINE)
        told = answers(handed_in)
        told.clear()
        self.assertEqual(handed_in, ALL_NINE)

    def test_nothing_is_kept_from_one_time_to_the_next(self):
        first = answers(ALL_NINE)
        self.assertEqual(answers(ALL_NINE), first)
        self.assertEqual(ask(undo()), [[-2]])
        self.assertEqual(ask(come(0, LEFT, [1], [])), [[0, 1, 0]])
        self.assertEqual(ask(best()), [[0, 2, 1, 1, 0]])
        self.assertEqual(ask(stands(10000)), [[0]])
        first.clear()
        self.assertNotEqual(answers(ALL_NINE), first)


if __name__ == "__main__":
    unittest.main()
