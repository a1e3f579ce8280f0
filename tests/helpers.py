"""Plain reckonings, written apart from the program, that the tests hold it against."""

import functools
import itertools
import random

PRIMES = [n for n in range(2, 98) if all(n % d for d in range(2, n))]
FAR = 10 ** 30 - 1

# Small enough that all rows of up to so many numbers can be held against all rules.
SMALL = ((2, 7), (3, 5), (5, 4), (7, 3))


def told_plainly(p, row, rule, place):
    whole = 0
    for back, factor in enumerate(rule, start=1):
        whole += factor * row[place - back]
    return whole % p


def goes_plainly(p, row, rule):
    return all(row[n] == told_plainly(p, row, rule, n) for n in range(len(rule), len(row)))


def gone_on_plainly(p, row, rule, many):
    longer = list(row)
    while len(longer) < len(row) + many:
        longer.append(told_plainly(p, longer, rule, len(longer)))
    return longer


def all_lists(p, length):
    return itertools.product(range(p), repeat=length)


def small_rows():
    for p, most in SMALL:
        for length in range(most + 1):
            for row in all_lists(p, length):
                yield p, list(row)


@functools.lru_cache(maxsize=None)
def shortest_rules(p, row):
    """All shortest rules of the row, a tuple, by going through all rules."""
    length = 0
    while True:
        found = [rule for rule in all_lists(p, length) if goes_plainly(p, row, rule)]
        if found:
            return found
        length += 1


def least_length(p, row):
    return len(shortest_rules(p, tuple(row))[0])


def some_list(chance, p, length):
    return [chance.randrange(p) for place in range(length)]


def some_row_by(chance, p, rule, length):
    begin = some_list(chance, p, min(len(rule), length))
    return gone_on_plainly(p, begin, rule, length - len(begin))


def one_put_otherwise(chance, p, row):
    other = list(row)
    if other:
        place = chance.randrange(len(other))
        other[place] = (other[place] + chance.randrange(1, p)) % p
    return other


def rows_of_every_kind():
    """Pairs of a prime and a row, the same ones each time."""
    chance = random.Random(20)
    for p in PRIMES:
        for length in (0, 1, 2, 3, 5, 8, 13, 21, 29, 30):
            rule = some_list(chance, p, chance.randrange(9))
            by_rule = some_row_by(chance, p, rule, length)
            ahead = chance.randrange(length + 1)
            yield p, some_list(chance, p, length)
            yield p, by_rule
            yield p, one_put_otherwise(chance, p, by_rule)
            yield p, [0] * ahead + some_list(chance, p, length - ahead)
            yield p, [0] * length
            yield p, [0] * (length - 1) + [1] if length else []
            yield p, [p - 1] + [0] * (length - 1) if length else []


def joined_plainly(p, one, other):
    """Point 10, word by word: what there isn't is nought."""
    def at(rule, place):
        return rule[place] if 0 <= place < len(rule) else 0

    together = []
    for i in range(1, len(one) + len(other) + 1):
        less = sum(at(one, j - 1) * at(other, i - j - 1) for j in range(1, i))
        together.append((at(one, i - 1) + at(other, i - 1) - less) % p)
    return together


def some_rule_to_turn(chance, p, length):
    return some_list(chance, p, length - 1) + [chance.randrange(1, p)] if length else []


def moved_on(p, rule, begin, places):
    """The beginning that stands so many places on."""
    return gone_on_plainly(p, begin, rule, places)[places:]


def far_by_squares(p, rule, begin, place):
    """The number at the place by the powers of a square of numbers that moves a beginning on by one."""
    size = len(rule)
    step = [[int(column == line + 1) for column in range(size)] for line in range(size - 1)] + [rule[::-1]]
    numbers = list(begin)
    while place:
        if place % 2:
            numbers = [sum(a * b for a, b in zip(line, numbers)) % p for line in step]
        step = [[sum(a * b for a, b in zip(line, column)) % p for column in zip(*step)] for line in step]
        place //= 2
    return numbers[0] if numbers else 0


def round_plainly(p, rule, begin):
    """The least number of places from which on a row, gone along for twice the most there can be, is as it was."""
    most = p ** len(rule)
    row = gone_on_plainly(p, begin, rule, 2 * most)
    return next(places for places in range(1, most + 1) if row[places:] == row[:len(row) - places])


def longest_with_round(p):
    """The length of the longest rules that have at most 2,000 beginnings."""
    return max(length for length in range(12) if p ** length <= 2000)
