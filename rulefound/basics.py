"""What all parts stand on: the checks of what is handed in, and reckoning by a prime."""

from rulefound.errors import NoPrime, NoRow, NoRule, NoTurn

PRIMES = (2, 3, 5, 7, 11, 13, 17, 19, 23, 29, 31, 37, 41, 43, 47, 53, 59, 61, 67, 71, 73, 79, 83, 89, 97)
MOST = 30


def check_prime(p):
    if p not in PRIMES:
        raise NoPrime(f"{p} is no prime from 2 to 97")


def fits(p, numbers):
    return len(numbers) <= MOST and all([0 <= number < p for number in numbers])


def check_row(p, row):
    if not fits(p, row):
        raise NoRow(f"a row has at most {MOST} numbers, each from nought to below {p}")


def check_rule(p, rule):
    if not fits(p, rule):
        raise NoRule(f"a rule has at most {MOST} numbers, each from nought to below {p}")


def check_turn(rule):
    if rule != [] and rule[-1] == 0:
        raise NoTurn("a rule whose last number is nought can't be turned")


# The place may lie just behind the row: only the numbers ahead of it are read.
def told_at(p, row, rule, place):
    return sum([rule[i] * row[place - 1 - i] for i in range(len(rule))]) % p


# By a prime each number but nought has one, and p is so small that trying them all is quick.
def inverse(p, number):
    return [other for other in range(1, p) if number * other % p == 1][0]
