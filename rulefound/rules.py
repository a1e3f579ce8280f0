"""Rules joined, and rules turned about."""

from rulefound.basics import MOST, check_prime, check_rule, check_turn, inverse
from rulefound.errors import TooLarge


# By a rule each number less its mixture is nought. With these factors, 1 for the number
# itself, joining two rules is multiplying: all factors of the one with all of the other.
def factors_of(rule):
    return [1] + [-number for number in rule]


def joined(p, one, other):
    check_prime(p)
    check_rule(p, one)
    check_rule(p, other)
    if len(one) + len(other) > MOST:
        raise TooLarge(f"a joined rule has at most {MOST} numbers")
    product = [0] * (len(one) + len(other) + 1)
    for i, left in enumerate(factors_of(one)):
        for j, right in enumerate(factors_of(other)):
            product[i + j] += left * right
    return [-factor % p for factor in product[1:]]


# The rule tells the last of its numbers from those ahead; solved for the first one instead,
# it tells that from those behind, which read from the end are ahead.
def turned(p, rule):
    check_prime(p)
    check_rule(p, rule)
    check_turn(rule)
    if rule == []:
        return []
    share = inverse(p, rule[-1])
    return [-share * number % p for number in reversed(rule[:-1])] + [share]
