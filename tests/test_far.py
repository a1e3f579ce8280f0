"""Points 12 and 13: the number at a far place, and when a row comes round."""

import random
import unittest

from helpers import (
    FAR, PRIMES, all_lists, far_by_squares, gone_on_plainly, longest_with_round, moved_on, round_plainly, some_list,
    some_rule_to_turn,
)
from rulefound.errors import NoPlace, NoTurn, TooLarge
from rulefound.far import far, round_of
from rulefound.rules import turned

LAST = 10 ** 29
FAR_PLACES = (61, 97, 1000, 2 ** 61 - 1, 2 ** 64, 10 ** 18, 10 ** 28 + 7, 2 ** 96, LAST - 60, LAST - 1, LAST)
NO_PLACES = (-1, -2, -60, -LAST, -FAR, LAST + 1, LAST + 2, 2 * LAST, FAR)


def some_rules(chance, p):
    """Rules of each length of which far places are told, such that can't be turned among them."""
    for length in range(9):
        yield some_list(chance, p, length)
        yield some_rule_to_turn(chance, p, length)
        yield [0] * length
        if length:
            yield some_list(chance, p, length - 1) + [0]


class Far(unittest.TestCase):
    def test_known_rows(self):
        self.assertEqual([far(7, [1, 1], [0, 1], place) for place in range(8)], [0, 1, 1, 2, 3, 5, 1, 6])
        self.assertEqual(far(97, [2], [3], 6), 95)
        self.assertEqual(far(5, [2, 3], [1, 0], 3), 1)
        self.assertEqual(far(5, [0, 0], [3, 4], 1), 4)
        self.assertEqual(far(5, [0, 0], [3, 4], 2), 0)
        # By 7 these numbers come round behind 16 places, and 10 ** 29 is 0 by 16.
        self.assertEqual(far(7, [1, 1], [3, 1], LAST), 3)

    def test_small_rules_and_beginnings_number_by_number(self):
        for p, most in ((2, 3), (3, 2), (5, 1), (7, 1)):
            for length in range(most + 1):
                for rule in map(list, all_lists(p, length)):
                    for begin in map(list, all_lists(p, length)):
                        row = gone_on_plainly(p, begin, rule, 12)
                        told = [far(p, rule, begin, place) for place in range(12)]
                        self.assertEqual(told, row[:12], (p, rule, begin))

    def test_places_of_nought_to_60_number_by_number(self):
        chance = random.Random(30)
        for p in PRIMES:
            for rule in some_rules(chance, p):
                begin = some_list(chance, p, len(rule))
                row = gone_on_plainly(p, begin, rule, 61)
                for place in range(61):
                    told = far(p, rule, begin, place)
                    self.assertIs(type(told), int)
                    self.assertEqual(told, row[place], (p, rule, begin, place))

    def test_far_places_from_a_beginning_moved_on(self):
        chance = random.Random(31)
        for p in PRIMES:
            for rule in some_rules(chance, p):
                begin = some_list(chance, p, len(rule))
                for place in (chance.choice(FAR_PLACES), LAST):
                    places = chance.choice((1, 2, 7, 8, 9, 60))
                    later = moved_on(p, rule, begin, places)
                    told = far(p, rule, begin, place)
                    self.assertTrue(0 <= told < p)
                    self.assertEqual(told, far(p, rule, later, place - places), (p, rule, begin, place))

    def test_far_places_from_a_beginning_moved_far_on(self):
        chance = random.Random(32)
        for p in PRIMES:
            for length in (1, 2, 5, 8):
                rule, begin = some_list(chance, p, length), some_list(chance, p, length)
                places = chance.randrange(LAST)
                later = [far(p, rule, begin, place) for place in range(places, places + length)]
                for place in (places + length, LAST):
                    self.assertEqual(far(p, rule, begin, place), far(p, rule, later, place - places), (p, rule))

    def test_far_places_by_squares_of_numbers(self):
        chance = random.Random(33)
        for p in PRIMES:
            for rule in some_rules(chance, p):
                begin = some_list(chance, p, len(rule))
                place = chance.choice((LAST, chance.randrange(LAST + 1)))
                told = far(p, rule, begin, place)
                self.assertEqual(told, far_by_squares(p, rule, begin, place), (p, rule, begin, place))

    def test_far_places_by_the_round(self):
        chance = random.Random(34)
        for p in PRIMES:
            length = min(8, longest_with_round(p))
            rule, begin = some_rule_to_turn(chance, p, length), some_list(chance, p, length)
            places = round_of(p, rule, begin)
            for place in FAR_PLACES:
                self.assertEqual(far(p, rule, begin, place), far(p, rule, begin, place % places), (p, rule, begin))

    def test_a_rule_of_one_number(self):
        for p in (2, 3, 7, 97):
            for factor in range(p):
                for place in (0, 1, 2) + FAR_PLACES:
                    self.assertEqual(far(p, [factor], [p - 1], place), (p - 1) * pow(factor, place, p) % p)

    def test_the_rule_without_numbers(self):
        for p in PRIMES:
            for place in (0, 1, 60) + FAR_PLACES:
                self.assertEqual(far(p, [], [], place), 0)
            for place in NO_PLACES:
                self.assertRaises(NoPlace, far, p, [], [], place)

    def test_other_places_are_no_place(self):
        for p in PRIMES:
            for length in (1, 2, 7, 8):
                for place in NO_PLACES:
                    self.assertRaises(NoPlace, far, p, [1] * length, [0] * length, place)
                    self.assertRaises(NoPlace, far, p, [0] * length, [1] * length, place)

    def test_rules_of_8_numbers_are_told_and_longer_ones_too_large(self):
        for p in PRIMES:
            for place in (0, 8, LAST):
                self.assertEqual(far(p, [0] * 7 + [1], [p - 1] * 8, place), p - 1)
            for length in range(9, 31):
                for place in (0, 1, LAST) + NO_PLACES:
                    self.assertRaises(TooLarge, far, p, [1] * length, [0] * length, place)
                    self.assertRaises(TooLarge, far, p, [0] * length, [0] * length, place)


class Round(unittest.TestCase):
    def test_known_rows(self):
        self.assertEqual(round_of(7, [1, 1], [0, 1]), 16)
        self.assertEqual(round_of(2, [1, 1], [0, 1]), 3)
        self.assertEqual(round_of(5, [1], [3]), 1)
        self.assertEqual(round_of(97, [96], [1]), 2)
        self.assertEqual(round_of(97, [5], [1]), 96)
        self.assertEqual(round_of(5, [0, 0, 1], [1, 2, 3]), 3)
        self.assertEqual(round_of(5, [0, 0, 1], [2, 2, 2]), 1)
        self.assertEqual(round_of(5, [0, 0, 0, 1], [1, 2, 1, 2]), 2)
        self.assertEqual(round_of(2, [0] * 6 + [1, 0, 0, 1], [0] * 9 + [1]), 1023)

    def test_small_rules_and_beginnings_number_by_number(self):
        for p, most in ((2, 5), (3, 3), (5, 2), (7, 1), (97, 1)):
            for length in range(most + 1):
                begins = list(map(list, all_lists(p, length))) if p < 97 else [[0] * length, [96] * length]
                for rule in map(list, all_lists(p, length)):
                    for begin in begins:
                        if length and rule[-1] == 0:
                            self.assertRaises(NoTurn, round_of, p, rule, begin)
                        else:
                            told = round_of(p, rule, begin)
                            self.assertEqual(told, round_plainly(p, rule, begin), (p, rule, begin))

    def test_the_longest_rules_number_by_number(self):
        chance = random.Random(40)
        for p in PRIMES:
            for length in range(1, longest_with_round(p) + 1):
                for time in range(3):
                    rule, begin = some_rule_to_turn(chance, p, length), some_list(chance, p, length)
                    told = round_of(p, rule, begin)
                    self.assertIs(type(told), int)
                    self.assertEqual(told, round_plainly(p, rule, begin), (p, rule, begin))
                    self.assertEqual(round_of(p, turned(p, rule), begin[::-1]), told, (p, rule, begin))

    def test_the_beginning_of_noughts(self):
        chance = random.Random(41)
        for p in PRIMES:
            for length in range(longest_with_round(p) + 1):
                self.assertEqual(round_of(p, some_rule_to_turn(chance, p, length), [0] * length), 1)

    def test_the_rule_without_numbers(self):
        for p in PRIMES:
            self.assertEqual(round_of(p, [], []), 1)

    def test_at_most_2000_beginnings(self):
        bounds = {2: 10, 3: 6, 5: 4, 7: 3, 11: 3, 13: 2, 17: 2, 19: 2, 23: 2, 29: 2, 31: 2, 37: 2, 41: 2, 43: 2, 47: 1}
        for p in PRIMES:
            length = bounds.get(p, 1)
            self.assertEqual(longest_with_round(p), length)
            self.assertEqual(round_of(p, [0] * (length - 1) + [1], [1] + [0] * (length - 1)), length)
            self.assertEqual(round_of(p, [0] * (length - 1) + [1], [1] * length), 1)
            for longer in range(length + 1, 31):
                for begin in ([0] * longer, [1] * longer):
                    self.assertRaises(TooLarge, round_of, p, [0] * (longer - 1) + [1], begin)
                    self.assertRaises(TooLarge, round_of, p, [p - 1] * longer, begin)

    def test_no_turn_comes_ahead_of_too_large(self):
        for p in PRIMES:
            for length in range(1, 31):
                for begin in ([0] * length, [1] * length):
                    self.assertRaises(NoTurn, round_of, p, [0] * length, begin)
                    self.assertRaises(NoTurn, round_of, p, [p - 1] * (length - 1) + [0], begin)
