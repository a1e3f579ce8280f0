"""Points 6, 7 and 8: a shortest rule, its paper, and the lengths."""

import unittest

from helpers import goes_plainly, least_length, rows_of_every_kind, shortest_rules, small_rows, told_plainly
from rulefound.rows import goes
from rulefound.shortest import lengths, paper, shortest


class ListsToldCase(unittest.TestCase):
    def assert_numbers(self, numbers, length, below):
        self.assertIs(type(numbers), list)
        self.assertEqual(len(numbers), length)
        for number in numbers:
            self.assertIs(type(number), int)
            self.assertTrue(0 <= number < below, numbers)


class Shortest(ListsToldCase):
    def test_known_rows(self):
        self.assertEqual(shortest(7, []), [])
        self.assertEqual(shortest(7, [0, 0, 0]), [])
        self.assertEqual(shortest(7, [3, 3, 3]), [1])
        self.assertEqual(shortest(7, [0, 1, 1, 2, 3, 5, 1, 6]), [1, 1])
        self.assertEqual(shortest(97, [1, 4, 9, 16, 25, 36, 49]), [3, 94, 1])
        self.assertEqual(len(shortest(2, [0] * 29 + [1])), 30)
        self.assertEqual(shortest(2, [1] + [0] * 29), [0])

    def test_small_rows_against_all_rules_gone_through(self):
        for p, row in small_rows():
            rule = shortest(p, row)
            self.assert_numbers(rule, least_length(p, row), p)
            self.assertIn(tuple(rule), shortest_rules(p, tuple(row)), (p, row))

    def test_longer_rows_go_by_the_rule_told(self):
        for p, row in rows_of_every_kind():
            rule = shortest(p, row)
            self.assert_numbers(rule, lengths(p, row)[-1], p)
            self.assertTrue(goes_plainly(p, row, rule), (p, row))
            self.assertIs(goes(p, row, rule), True)


class Paper(ListsToldCase):
    def assert_paper(self, p, row):
        least = len(shortest(p, row))
        weights = paper(p, row)
        if not any(row):
            self.assertIsNone(weights, (p, row))
            self.assertEqual(least, 0)
            return
        self.assert_numbers(weights, len(row), p)
        self.assertGreaterEqual(least, 1)
        self.assertEqual(weights[:least - 1], [0] * (least - 1), (p, row))
        self.assertEqual(sum(weights[n] * row[n] for n in range(len(row))) % p, 1, (p, row))
        for j in range(1, least):
            whole = sum(weights[n] * row[n - j] for n in range(least - 1, len(row)))
            self.assertEqual(whole % p, 0, (p, row, j))

    def test_known_rows(self):
        self.assertIsNone(paper(2, []))
        self.assertIsNone(paper(97, [0]))
        self.assertIsNone(paper(7, [0] * 30))
        self.assertEqual(paper(7, [3]), [5])
        self.assertEqual(paper(7, [0, 0, 3]), [0, 0, 5])

    def test_small_rows(self):
        for p, row in small_rows():
            self.assert_paper(p, row)

    def test_rows_of_every_kind(self):
        for p, row in rows_of_every_kind():
            self.assert_paper(p, row)


class Lengths(ListsToldCase):
    def test_known_rows(self):
        self.assertEqual(lengths(7, []), [0])
        self.assertEqual(lengths(7, [0, 0]), [0, 0, 0])
        self.assertEqual(lengths(7, [0, 1, 1, 2, 3, 5]), [0, 0, 2, 2, 2, 2, 2])
        self.assertEqual(lengths(2, [0] * 29 + [1]), [0] * 30 + [30])
        self.assertEqual(lengths(2, [1] + [0] * 28 + [1]), [0] + [1] * 29 + [29])

    def test_small_rows_against_all_rules_gone_through(self):
        for p, row in small_rows():
            told = lengths(p, row)
            self.assertEqual(told, [least_length(p, row[:n]) for n in range(len(row) + 1)], (p, row))

    def test_small_rows_stay_or_become_by_each_shortest_rule(self):
        for p, row in small_rows():
            told = lengths(p, row)
            for n in range(len(row)):
                for rule in shortest_rules(p, tuple(row[:n])):
                    self.assertEqual(told[n + 1], self.next_length(p, row, n, told[n], rule), (p, row, n))

    def test_longer_rows_stay_or_become_by_the_rule_told(self):
        for p, row in rows_of_every_kind():
            told = lengths(p, row)
            self.assert_numbers(told, len(row) + 1, 31)
            self.assertEqual(told, sorted(told))
            self.assertEqual(told[0], 0)
            for n in range(len(row)):
                rule = shortest(p, row[:n])
                self.assertEqual(told[n + 1], self.next_length(p, row, n, told[n], rule), (p, row, n))

    def test_the_lengths_of_a_beginning_are_the_beginning_of_the_lengths(self):
        for p, row in rows_of_every_kind():
            told = lengths(p, row)
            for n in range(len(row) + 1):
                self.assertEqual(lengths(p, row[:n]), told[:n + 1], (p, row, n))

    def next_length(self, p, row, n, length, rule):
        if told_plainly(p, row, rule, n) == row[n]:
            return length
        return max(length, n + 1 - length)
