"""Point 1: what is handed in stays as it was, and what is told is the asker's own."""

import copy
import unittest

from rulefound.errors import RuleError
from rulefound.far import far, round_of
from rulefound.notes import read, shown
from rulefound.rows import goes, gone_on
from rulefound.rules import joined, turned
from rulefound.shortest import lengths, paper, shortest

CALLS = (
    (goes, (7, [0, 1, 1, 2], [1, 1])),
    (goes, (7, [0, 1, 1, 3], [1, 1])),
    (gone_on, (7, [0, 1, 1, 2], [1, 1], 5)),
    (gone_on, (7, [0, 1, 1, 2], [1, 1], 0)),
    (gone_on, (7, [0, 1], [1, 1], 0)),
    (gone_on, (7, [], [], 0)),
    (shortest, (7, [0, 1, 1, 2, 3])),
    (shortest, (7, [0, 0, 3])),
    (shortest, (7, [])),
    (lengths, (7, [0, 1, 1, 2, 3])),
    (lengths, (7, [])),
    (paper, (7, [0, 1, 1, 2, 3])),
    (paper, (7, [1])),
    (paper, (7, [0, 0])),
    (joined, (7, [1, 1], [2, 3, 4])),
    (joined, (7, [1, 1], [])),
    (joined, (7, [], [1, 1])),
    (joined, (7, [], [])),
    (turned, (7, [1, 2, 3])),
    (turned, (7, [1])),
    (turned, (7, [])),
    (far, (7, [1, 1], [0, 1], 0)),
    (far, (7, [1, 1], [0, 1], 10 ** 29)),
    (far, (7, [], [], 5)),
    (round_of, (7, [1, 1], [0, 1])),
    (round_of, (7, [1], [3])),
    (round_of, (7, [], [])),
    (shown, (7, [1, 0, 6])),
    (shown, (2, [])),
    (read, ("7: 1 0 6",)),
    (read, ("2:",)),
)
REFUSED = (
    (goes, (8, [9, 1], [1, 9])),
    (goes, (7, [9, 1], [1, 1])),
    (goes, (7, [0, 1], [1, 9])),
    (gone_on, (7, [0], [1, 1], 1)),
    (gone_on, (7, [0, 1], [1, 1], 31)),
    (shortest, (7, [1, 7])),
    (lengths, (7, [1] * 31)),
    (paper, (7, [-1])),
    (joined, (7, [1] * 15, [1] * 16)),
    (joined, (7, [1], [7])),
    (turned, (7, [1, 0])),
    (far, (7, [1, 1], [0], 1)),
    (far, (7, [1] * 9, [1] * 9, 1)),
    (far, (7, [1, 1], [0, 1], -1)),
    (round_of, (7, [1, 0], [0, 1])),
    (round_of, (7, [1] * 9, [1] * 9)),
    (shown, (7, [7])),
    (read, ("7: 7",)),
)


def lists_in(handed):
    return [one for one in handed if isinstance(one, list)]


def lists_told(answer):
    return lists_in(answer if isinstance(answer, tuple) else [answer])


class Own(unittest.TestCase):
    def test_what_is_handed_in_is_as_it_was(self):
        for told, handed in CALLS:
            with self.subTest(told=told.__name__, handed=handed):
                mine = copy.deepcopy(handed)
                told(*mine)
                self.assertEqual(mine, handed)

    def test_what_is_handed_in_is_as_it_was_behind_a_refusal(self):
        for told, handed in REFUSED:
            with self.subTest(told=told.__name__, handed=handed):
                mine = copy.deepcopy(handed)
                self.assertRaises(RuleError, told, *mine)
                self.assertEqual(mine, handed)

    def test_what_is_told_does_not_hang_on_what_was_handed_in(self):
        for told, handed in CALLS:
            with self.subTest(told=told.__name__, handed=handed):
                mine = copy.deepcopy(handed)
                answer = told(*mine)
                as_told = copy.deepcopy(answer)
                for one in lists_in(mine):
                    one[:] = [5] * (len(one) + 1)
                self.assertEqual(answer, as_told)
                self.assertEqual(told(*copy.deepcopy(handed)), as_told)

    def test_what_is_told_may_be_changed(self):
        for told, handed in CALLS:
            with self.subTest(told=told.__name__, handed=handed):
                mine = copy.deepcopy(handed)
                first = told(*mine)
                as_told = copy.deepcopy(first)
                for one in lists_told(first):
                    one[:] = [5] * (len(one) + 1)
                second = told(*mine)
                self.assertEqual(mine, handed)
                self.assertEqual(second, as_told)
                for one in lists_told(second):
                    self.assertFalse(any(one is another for another in lists_in(mine) + lists_told(first)))

    def test_one_list_may_be_handed_in_twice(self):
        for numbers in ([], [1], [3, 4]):
            self.assertIs(goes(7, numbers, numbers), True)
            longer = gone_on(7, numbers, numbers, 3)
            self.assertEqual(longer, gone_on(7, list(numbers), list(numbers), 3))
            self.assertEqual(longer[:len(numbers)], numbers)
            self.assertEqual(joined(7, numbers, numbers), joined(7, list(numbers), list(numbers)))
            self.assertEqual(far(7, numbers, numbers, 20), far(7, list(numbers), list(numbers), 20))
            self.assertEqual(round_of(7, numbers, numbers), round_of(7, list(numbers), list(numbers)))
