"""Points 2 to 5, and 10 to 14 of primes, rows and rules: what is refused, with what, and in which order."""

import unittest

from helpers import FAR, PRIMES
from rulefound.errors import NoPlace, NoPrime, NoRow, NoRule
from rulefound.far import far, round_of
from rulefound.notes import shown
from rulefound.rows import goes, gone_on
from rulefound.rules import joined, turned
from rulefound.shortest import lengths, paper, shortest

OF_A_ROW = (shortest, lengths, paper, shown)
PLACES = (0, 1, 10 ** 29, -1, 10 ** 29 + 1, FAR, -FAR)
NO_PRIMES = (
    [0, 1, -1, -2, -3, -7, -97, FAR, -FAR, 10 ** 29, 10 ** 29 + 319]
    + [n for n in range(4, 97) if n not in PRIMES]
    + list(range(98, 140))
    + [199, 211, 997, 7919, 2 ** 61 - 1]
)


def no_lists(p):
    """Lists that are neither rows nor rules by p."""
    for length in (1, 2, 7, 29, 30):
        for place in sorted({0, length // 2, length - 1}):
            for wrong in (p, p + 1, -1, -p, FAR, -FAR):
                yield [0] * place + [wrong] + [0] * (length - 1 - place)
    for length in range(31, 61):
        yield [0] * length
        yield [p - 1] * length
        yield [0] * (length - 1) + [p]
    yield [p] * 60


class Primes(unittest.TestCase):
    def test_each_prime_from_2_to_97_is_taken(self):
        self.assertEqual(len(PRIMES), 25)
        for p in PRIMES:
            with self.subTest(p=p):
                row = [1, p - 1, 1, p - 1]
                self.assertIs(goes(p, row, [p - 1]), True)
                self.assertEqual(gone_on(p, row, [p - 1], 2), row + [1, p - 1])
                self.assertEqual(shortest(p, row), [p - 1])
                self.assertEqual(lengths(p, row), [0, 1, 1, 1, 1])
                self.assertEqual(paper(p, row), [1, 0, 0, 0])
                self.assertEqual(joined(p, [1], [p - 1]), [0, 1])
                self.assertEqual(turned(p, [p - 1]), [p - 1])
                self.assertEqual(far(p, [p - 1], [1], 10 ** 29 - 1), p - 1)
                self.assertEqual(round_of(p, [1], [p - 1]), 1)
                self.assertEqual(shown(p, row), f"{p}: 1 {p - 1} 1 {p - 1}")

    def test_other_numbers_are_refused_ahead_of_all_else(self):
        lists = ([], [0], [-1], [FAR], [0] * 31, [1] * 60)
        for p in NO_PRIMES:
            for row in lists:
                for told in OF_A_ROW + (turned,):
                    with self.subTest(p=p, row=row, told=told.__name__):
                        self.assertRaises(NoPrime, told, p, row)
                for rule in lists:
                    with self.subTest(p=p, row=row, rule=rule):
                        self.assertRaises(NoPrime, goes, p, row, rule)
                        self.assertRaises(NoPrime, joined, p, row, rule)
                        self.assertRaises(NoPrime, round_of, p, rule, row)
                        for place in PLACES:
                            self.assertRaises(NoPrime, far, p, rule, row, place)
                        for many in (0, 1, -1, 31, FAR):
                            self.assertRaises(NoPrime, gone_on, p, row, rule, many)


class RowsAndRules(unittest.TestCase):
    def test_rows_of_none_one_and_30_numbers_are_taken(self):
        for p in PRIMES:
            for row in ([], [0], [p - 1], [0] * 30, [p - 1] * 30):
                with self.subTest(p=p, row=row):
                    for told in OF_A_ROW:
                        told(p, row)
                    self.assertIs(goes(p, row, [1]), True)
                    self.assertEqual(gone_on(p, row, [], 1), row + [0])

    def test_rules_of_none_one_and_30_numbers_are_taken(self):
        for p in PRIMES:
            for rule in ([], [0], [p - 1], [0] * 30, [p - 1] * 30):
                with self.subTest(p=p, rule=rule):
                    self.assertIs(goes(p, [0] * 30, rule), True)
                    self.assertEqual(gone_on(p, [0] * 30, rule, 1), [0] * 31)
                    self.assertEqual(joined(p, rule, []), rule)
                    if rule == [] or rule[-1] != 0:
                        self.assertEqual(turned(p, turned(p, rule)), rule)

    def test_other_lists_are_no_rows(self):
        for p in (2, 3, 7, 53, 97):
            for row in no_lists(p):
                with self.subTest(p=p, row=row):
                    for told in OF_A_ROW:
                        self.assertRaises(NoRow, told, p, row)
                    self.assertRaises(NoRow, goes, p, row, [])
                    self.assertRaises(NoRow, gone_on, p, row, [], 0)

    def test_other_lists_are_no_rules(self):
        for p in (2, 3, 7, 53, 97):
            for rule in no_lists(p):
                with self.subTest(p=p, rule=rule):
                    self.assertRaises(NoRule, goes, p, [], rule)
                    self.assertRaises(NoRule, goes, p, [0] * 30, rule)
                    self.assertRaises(NoRule, gone_on, p, [0] * 30, rule, 0)
                    self.assertRaises(NoRule, turned, p, rule)
                    for other in ([], [1], [0] * 30):
                        self.assertRaises(NoRule, joined, p, rule, other)
                        self.assertRaises(NoRule, joined, p, other, rule)
                    self.assertRaises(NoRule, joined, p, rule, rule)

    def test_no_row_comes_ahead_of_no_rule(self):
        for p in (2, 7, 97):
            for wrong in no_lists(p):
                for rule in ([p], [-1], [0] * 31):
                    with self.subTest(p=p, row=wrong, rule=rule):
                        self.assertRaises(NoRow, goes, p, wrong, rule)
                        self.assertRaises(NoRow, gone_on, p, wrong, rule, 0)
                        self.assertRaises(NoRow, gone_on, p, wrong, rule, 31)


class GoingOn(unittest.TestCase):
    def test_a_row_shorter_than_the_rule_is_no_row(self):
        for p in (2, 7, 97):
            for length in (1, 2, 5, 29, 30):
                for short in sorted({0, length // 2, length - 1}):
                    for many in (0, 1, 30, -1, 31, FAR, -FAR):
                        with self.subTest(p=p, length=length, short=short, many=many):
                            self.assertRaises(NoRow, gone_on, p, [1] * short, [1] * length, many)

    def test_no_rule_comes_ahead_of_a_row_too_short_and_of_no_place(self):
        for p in (2, 7, 97):
            for rule in no_lists(p):
                for row in ([], [0] * 30):
                    for many in (0, -1, 31):
                        with self.subTest(p=p, rule=rule, row=row, many=many):
                            self.assertRaises(NoRule, gone_on, p, row, rule, many)

    def test_other_numbers_than_nought_to_30_are_no_place(self):
        for p in (2, 7, 97):
            for row, rule in (([], []), ([1], [1]), ([1] * 30, [1, 1]), ([1] * 30, [1] * 30)):
                for many in (-1, -2, -30, -FAR, 31, 32, 60, 1000, FAR):
                    with self.subTest(p=p, row=row, rule=rule, many=many):
                        self.assertRaises(NoPlace, gone_on, p, row, rule, many)


class Beginnings(unittest.TestCase):
    """Points 12 and 13: by far and round_of a rule is looked at ahead of its beginning, and both ahead of all else."""

    def assert_refused(self, refusal, p, rule, begin):
        with self.subTest(p=p, rule=rule, begin=begin):
            self.assertRaises(refusal, round_of, p, rule, begin)
            for place in PLACES:
                self.assertRaises(refusal, far, p, rule, begin, place)

    def test_no_rule_comes_ahead_of_no_row(self):
        for p in (2, 3, 7, 53, 97):
            for rule in no_lists(p):
                for begin in ([], [0], [0] * min(30, len(rule)), [p] * len(rule), [-1], [0] * 31, [FAR] * 60):
                    self.assert_refused(NoRule, p, rule, begin)

    def test_what_is_no_row_is_no_beginning(self):
        for p in (2, 3, 7, 53, 97):
            for begin in no_lists(p):
                length = min(30, len(begin))
                for rule in ([0] * (length - 1) + [1], [p - 1] * (length - 1) + [0]):
                    self.assert_refused(NoRow, p, rule, begin)

    def test_a_shorter_or_longer_row_is_no_beginning(self):
        for p in (2, 7, 97):
            for length in (0, 1, 2, 7, 8, 9, 10, 29, 30):
                others = {0, 1, length // 2, length - 1, length + 1, 2 * length, 30} - {length}
                for other in sorted(other for other in others if 0 <= other <= 30):
                    for begin in ([0] * other, [1] * other):
                        self.assert_refused(NoRow, p, [1] * length, begin)
                        self.assert_refused(NoRow, p, [0] * length, begin)

    def test_a_row_as_long_as_the_rule_is_one(self):
        for p in PRIMES:
            for length in range(9):
                for place in range(length):
                    begin = [0] * place + [p - 1] + [0] * (length - 1 - place)
                    self.assertEqual(far(p, [0] * length, begin, place), p - 1)
            self.assertEqual(round_of(p, [1], [p - 1]), 1)
            self.assertEqual(round_of(p, [], []), 1)
