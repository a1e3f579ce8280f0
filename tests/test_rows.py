"""Points 4, 5 and 9: when a row goes by a rule, and how it is gone on with."""

import random
import unittest

from helpers import PRIMES, all_lists, goes_plainly, gone_on_plainly, some_list, some_row_by
from rulefound.rows import goes, gone_on
from rulefound.shortest import shortest


class Goes(unittest.TestCase):
    def test_known_rows(self):
        self.assertIs(goes(7, [0, 1, 1, 2, 3, 5, 1, 6], [1, 1]), True)
        self.assertIs(goes(7, [0, 1, 1, 2, 3, 5, 1, 0], [1, 1]), False)
        self.assertIs(goes(97, [3, 6, 12, 24, 48, 96, 95], [2]), True)
        self.assertIs(goes(5, [1, 2, 3, 1, 2, 3], [0, 0, 1]), True)
        self.assertIs(goes(5, [1, 2, 3, 1, 2, 3], [1, 0, 0]), False)
        # The first number of the rule belongs to the number just ahead.
        self.assertIs(goes(5, [1, 0, 2, 4], [2, 2]), True)
        self.assertIs(goes(5, [1, 0, 2, 4], [3, 2]), False)

    def test_small_rows_by_all_small_rules(self):
        for p, most in ((2, 5), (3, 3), (5, 2)):
            rules = [list(rule) for length in range(most + 2) for rule in all_lists(p, length)]
            for length in range(most + 1):
                for row in map(list, all_lists(p, length)):
                    for rule in rules:
                        self.assertIs(goes(p, row, rule), goes_plainly(p, row, rule), (p, row, rule))

    def test_one_number_put_otherwise_at_each_place_in_turn(self):
        chance = random.Random(4)
        for p in PRIMES:
            for length in (0, 1, 2, 5, 14, 29, 30):
                rule = some_list(chance, p, length)
                row = some_row_by(chance, p, rule, 30)
                self.assertIs(goes(p, row, rule), True, (p, row, rule))
                for place in range(30):
                    other = list(row)
                    other[place] = (other[place] + chance.randrange(1, p)) % p
                    told = goes(p, other, rule)
                    self.assertIs(told, goes_plainly(p, other, rule), (p, other, rule))
                    # A number no rule reads on is told wrongly itself.
                    if place == 29 and length < 30:
                        self.assertIs(told, False)

    def test_by_the_rule_of_length_nought_go_just_the_noughts(self):
        for p in (2, 7, 97):
            for length in range(31):
                self.assertIs(goes(p, [0] * length, []), True)
                for place in range(length):
                    row = [0] * place + [p - 1] + [0] * (length - 1 - place)
                    self.assertIs(goes(p, row, []), False, (p, row))

    def test_each_row_goes_by_rules_as_long_and_longer(self):
        chance = random.Random(5)
        for p in (2, 7, 97):
            for length in range(31):
                row = some_list(chance, p, length)
                for longer in range(length, 31):
                    self.assertIs(goes(p, row, some_list(chance, p, longer)), True)


class GoneOn(unittest.TestCase):
    def test_known_rows(self):
        self.assertEqual(gone_on(7, [0, 1], [1, 1], 6), [0, 1, 1, 2, 3, 5, 1, 6])
        self.assertEqual(gone_on(97, [3], [2], 6), [3, 6, 12, 24, 48, 96, 95])
        self.assertEqual(gone_on(5, [1, 2, 3], [0, 0, 1], 4), [1, 2, 3, 1, 2, 3, 1])
        self.assertEqual(gone_on(5, [1, 0], [2, 3], 2), [1, 0, 3, 1])

    def test_nought_one_and_up_to_30_more_numbers(self):
        chance = random.Random(6)
        for p in PRIMES:
            for length in (0, 1, 2, 7, 30):
                rule = some_list(chance, p, length)
                for longer in sorted({length, min(30, length + 1), 30}):
                    row = some_list(chance, p, longer)
                    for many in (0, 1, 2, 29, 30):
                        told = gone_on(p, row, rule, many)
                        self.assertIs(type(told), list)
                        self.assertEqual(len(told), longer + many)
                        self.assertEqual(told, gone_on_plainly(p, row, rule, many), (p, row, rule))

    def test_sixty_numbers_are_told(self):
        self.assertEqual(gone_on(2, [1, 0] * 15, [0, 1], 30), [1, 0] * 30)
        self.assertEqual(gone_on(97, [96] * 30, [0] * 29 + [1], 30), [96] * 60)

    def test_a_row_just_as_long_as_the_rule(self):
        self.assertEqual(gone_on(7, [], [], 3), [0, 0, 0])
        self.assertEqual(gone_on(7, [1, 2, 3], [0, 0, 2], 3), [1, 2, 3, 2, 4, 6])

    def test_the_row_need_not_go_by_the_rule(self):
        self.assertIs(goes(7, [1, 1, 5, 6], [1, 1]), False)
        self.assertEqual(gone_on(7, [1, 1, 5, 6], [1, 1], 3), [1, 1, 5, 6, 4, 3, 0])
        self.assertEqual(gone_on(7, [6, 6], [], 2), [6, 6, 0, 0])


class TwoRules(unittest.TestCase):
    def test_all_small_rules_by_which_one_long_enough_row_goes(self):
        for p, most in ((2, 3), (3, 2)):
            rules = [list(rule) for length in range(most + 1) for rule in all_lists(p, length)]
            for one in rules:
                for begin in all_lists(p, len(one)):
                    row = gone_on(p, list(begin), one, 2 * most)
                    for other in rules:
                        enough = row[:len(one) + len(other)]
                        if goes(p, enough, one) and goes(p, enough, other):
                            self.assertEqual(gone_on(p, enough, one, 30), gone_on(p, enough, other, 30))

    def test_the_shortest_rule_goes_on_just_as_the_rule(self):
        chance = random.Random(9)
        for p in PRIMES:
            for length in range(16):
                rule = some_list(chance, p, length)
                for long in sorted({2 * length, min(30, 2 * length + 1), 30}):
                    row = some_row_by(chance, p, rule, long)
                    found = shortest(p, row)
                    self.assertLessEqual(len(found), length)
                    self.assertEqual(gone_on(p, row, found, 30), gone_on(p, row, rule, 30), (p, row))
