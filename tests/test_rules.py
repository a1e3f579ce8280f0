"""Points 9, 10 and 11: rules joined and turned."""

import random
import unittest

from helpers import (
    PRIMES, all_lists, goes_plainly, gone_on_plainly, joined_plainly, one_put_otherwise, some_list, some_row_by,
    some_rule_to_turn,
)
from rulefound.errors import NoRule, NoTurn, TooLarge
from rulefound.rows import goes, gone_on
from rulefound.rules import joined, turned

# Lengths of two rules that together make a rule of at most 30 numbers.
PAIRS = [(one, other) for one in range(16) for other in range(16)] + [(0, 30), (30, 0), (29, 1), (1, 29), (20, 10)]
TOO_LONG = ((1, 30), (30, 1), (15, 16), (16, 15), (16, 16), (30, 30), (2, 29))


class RuleToldCase(unittest.TestCase):
    def assert_rule(self, p, rule, length):
        self.assertIs(type(rule), list)
        self.assertEqual(len(rule), length)
        for number in rule:
            self.assertIs(type(number), int)
            self.assertTrue(0 <= number < p, (p, rule))


class Joined(RuleToldCase):
    def test_known_rules(self):
        self.assertEqual(joined(7, [], []), [])
        self.assertEqual(joined(7, [2], [3]), [5, 1])
        self.assertEqual(joined(7, [1], [1]), [2, 6])
        self.assertEqual(joined(2, [1], [1]), [0, 1])
        self.assertEqual(joined(7, [1, 1], [2]), [3, 6, 5])
        self.assertEqual(joined(7, [0], [1, 1]), [1, 1, 0])
        self.assertEqual(joined(7, [0, 0], [0]), [0, 0, 0])
        self.assertEqual(joined(97, [2], [3]), [5, 91])

    def test_all_small_rules_as_the_point_tells(self):
        for p, most in ((2, 4), (3, 2), (5, 2)):
            rules = [list(rule) for length in range(most + 1) for rule in all_lists(p, length)]
            for one in rules:
                for other in rules:
                    self.assertEqual(joined(p, one, other), joined_plainly(p, one, other), (p, one, other))

    def test_longer_rules_as_the_point_tells_and_the_other_way_about(self):
        chance = random.Random(10)
        for p in PRIMES:
            for length, longer in PAIRS:
                one, other = some_list(chance, p, length), some_list(chance, p, longer)
                told = joined(p, one, other)
                self.assert_rule(p, told, length + longer)
                self.assertEqual(told, joined_plainly(p, one, other), (p, one, other))
                self.assertEqual(told, joined(p, other, one), (p, one, other))

    def test_with_the_rule_of_no_numbers_the_rule_itself(self):
        chance = random.Random(11)
        for p in PRIMES:
            for length in range(31):
                rule = some_list(chance, p, length)
                self.assertEqual(joined(p, rule, []), rule)
                self.assertEqual(joined(p, [], rule), rule)

    def test_three_rules_are_joined_alike_in_either_order(self):
        chance = random.Random(12)
        for p in PRIMES:
            one, other, third = (some_list(chance, p, chance.randrange(11)) for which in range(3))
            self.assertEqual(joined(p, joined(p, one, other), third), joined(p, one, joined(p, other, third)))

    def test_thirty_numbers_are_told_and_more_are_too_large(self):
        for p in PRIMES:
            for length in range(31):
                self.assert_rule(p, joined(p, [p - 1] * length, [1] * (30 - length)), 30)
                self.assert_rule(p, joined(p, [0] * length, [0] * (30 - length)), 30)
            for length in range(1, 31):
                self.assertRaises(TooLarge, joined, p, [p - 1] * length, [1] * (31 - length))
                self.assertRaises(TooLarge, joined, p, [0] * length, [0] * (31 - length))
            for length, longer in TOO_LONG:
                self.assertRaises(TooLarge, joined, p, [0] * length, [1] * longer)

    def test_no_rule_comes_ahead_of_too_large(self):
        for wrong in ([7] * 30, [0] * 31, [-1] + [0] * 29):
            for rule in ([], [1], [1] * 30):
                self.assertRaises(NoRule, joined, 7, wrong, rule)
                self.assertRaises(NoRule, joined, 7, rule, wrong)
            self.assertRaises(NoRule, joined, 7, wrong, wrong)

    def test_rows_put_together_go_by_the_joined_rule(self):
        chance = random.Random(13)
        for p in PRIMES:
            for length, longer in ((0, 0), (0, 3), (1, 0), (1, 1), (2, 1), (3, 4), (8, 8), (14, 15), (15, 15)):
                one, other = some_list(chance, p, length), some_list(chance, p, longer)
                both = joined(p, one, other)
                for long in (0, 1, length, length + longer, 29, 30):
                    by_one = some_row_by(chance, p, one, long)
                    by_other = some_row_by(chance, p, other, long)
                    together = [(a + b) % p for a, b in zip(by_one, by_other)]
                    self.assertIs(goes(p, together, both), True, (p, one, other, together))
                # Rows of the program have at most 30 numbers; the words hold of longer ones too.
                by_one, by_other = (some_row_by(chance, p, rule, 90) for rule in (one, other))
                self.assertTrue(goes_plainly(p, [(a + b) % p for a, b in zip(by_one, by_other)], both))


class TwoRules(unittest.TestCase):
    """Point 9, of a rule and a joined one: a row that goes by the rule goes by the joined one too."""

    def test_a_rule_and_a_joined_one_go_on_alike(self):
        chance = random.Random(14)
        for p in PRIMES:
            for length, longer in ((0, 0), (0, 5), (1, 1), (2, 3), (5, 5), (10, 10), (14, 2), (15, 0)):
                one, other = some_list(chance, p, length), some_list(chance, p, longer)
                both = joined(p, one, other)
                for long in sorted({2 * length + longer, 30}):
                    row = some_row_by(chance, p, one, long)
                    self.assertIs(goes(p, row, both), True)
                    self.assertEqual(gone_on(p, row, one, 30), gone_on(p, row, both, 30), (p, one, other, row))

    def test_two_joined_ones_of_one_rule_go_on_alike(self):
        chance = random.Random(15)
        for p in PRIMES:
            one, other, third = (some_list(chance, p, length) for length in (4, 6, 7))
            row = some_row_by(chance, p, one, 30)
            first, second = joined(p, one, other), joined(p, third, one)
            self.assertEqual(gone_on(p, row, first, 30), gone_on(p, row, second, 30), (p, row))


class Turned(RuleToldCase):
    def test_known_rules(self):
        self.assertEqual(turned(7, []), [])
        self.assertEqual(turned(7, [1]), [1])
        self.assertEqual(turned(7, [3]), [5])
        self.assertEqual(turned(7, [1, 1]), [6, 1])
        self.assertEqual(turned(7, [1, 2, 3]), [4, 2, 5])
        self.assertEqual(turned(2, [1, 0, 1]), [0, 1, 1])
        self.assertEqual(turned(97, [2, 96]), [2, 96])

    def test_small_rules_by_all_small_rows(self):
        for p, most, long in ((2, 4, 7), (3, 2, 5), (5, 2, 4)):
            rows = [list(row) for length in range(long + 1) for row in all_lists(p, length)]
            for length in range(most + 1):
                for rule in map(list, all_lists(p, length)):
                    if length and rule[-1] == 0:
                        self.assertRaises(NoTurn, turned, p, rule)
                        continue
                    told = turned(p, rule)
                    self.assert_rule(p, told, length)
                    self.assertEqual(turned(p, told), rule)
                    for row in rows:
                        self.assertIs(goes(p, row, told), goes_plainly(p, row[::-1], rule), (p, rule, row))

    def test_longer_rules_by_rows_that_go_by_them_and_that_do_not(self):
        chance = random.Random(16)
        for p in PRIMES:
            for length in (0, 1, 2, 3, 7, 15, 28, 29):
                rule = some_rule_to_turn(chance, p, length)
                told = turned(p, rule)
                self.assert_rule(p, told, length)
                by_rule = some_row_by(chance, p, rule, 30)
                self.assertIs(goes(p, by_rule[::-1], told), True, (p, rule, by_rule))
                by_told = some_row_by(chance, p, told, 30)
                self.assertIs(goes(p, by_told[::-1], rule), True, (p, rule, by_told))
                for row in (one_put_otherwise(chance, p, by_rule), some_list(chance, p, 30)):
                    self.assertIs(goes(p, row[::-1], told), goes_plainly(p, row, rule), (p, rule, row))

    def test_thirty_numbers_by_longer_rows(self):
        chance = random.Random(17)
        for p in PRIMES:
            rule = some_rule_to_turn(chance, p, 30)
            told = turned(p, rule)
            self.assert_rule(p, told, 30)
            row = gone_on_plainly(p, some_list(chance, p, 30), rule, 60)
            self.assertTrue(goes_plainly(p, row[::-1], told), (p, rule))

    def test_turned_again_it_is_the_rule(self):
        chance = random.Random(18)
        for p in PRIMES:
            for length in range(31):
                rule = some_rule_to_turn(chance, p, length)
                self.assertEqual(turned(p, turned(p, rule)), rule, (p, rule))

    def test_a_joined_rule_is_turned_as_its_parts_are(self):
        chance = random.Random(19)
        for p in PRIMES:
            one, other = some_rule_to_turn(chance, p, 6), some_rule_to_turn(chance, p, 9)
            self.assertEqual(turned(p, joined(p, one, other)), joined(p, turned(p, one), turned(p, other)))

    def test_a_last_number_of_nought_is_no_turn(self):
        for p in PRIMES:
            for length in range(1, 31):
                self.assertRaises(NoTurn, turned, p, [0] * length)
                self.assertRaises(NoTurn, turned, p, [p - 1] * (length - 1) + [0])

    def test_no_rule_comes_ahead_of_no_turn(self):
        for wrong in ([7, 0], [-1] + [1] * 28 + [0], [0] * 31, [1] * 60):
            self.assertRaises(NoRule, turned, 7, wrong)
