"""The number at a far place of a row, and when a row comes round."""

from rulefound.basics import check_prime, check_row, check_rule, check_turn, told_at
from rulefound.errors import NoPlace, NoRow, TooLarge

LONGEST = 8
MOST_BEGINNINGS = 2000


def check_begin(p, rule, begin):
    check_prime(p)
    check_rule(p, rule)
    check_row(p, begin)
    if len(begin) != len(rule):
        raise NoRow("a beginning is just as long as its rule")


# The weights of a place tell its number as a mixture of the beginning's. One place on, each
# weight belongs to the number behind; the one behind the beginning is told by the rule.
def weights_one_on(p, rule, weights):
    over = weights[-1]
    return [(over * number + weight) % p for number, weight in zip(reversed(rule), [0] + weights)]


# The weights of the place that is both places together: each weight of the one goes with
# the other's weights moved on by as many places. Begun with the last weight, a single step
# on between one weight and the one ahead of it moves all on that are in already.
def weights_together(p, rule, one, other):
    whole = [0] * len(rule)
    for factor in reversed(one):
        whole = weights_one_on(p, rule, whole)
        whole = [(number + factor * weight) % p for number, weight in zip(whole, other)]
    return whole


# By halving, since a far place can't be gone to number by number.
def weights_at(p, rule, place):
    whole = [1] + [0] * (len(rule) - 1)
    step = weights_one_on(p, rule, whole)
    left = place
    while left > 0:
        if left % 2 == 1:
            whole = weights_together(p, rule, whole, step)
        step = weights_together(p, rule, step, step)
        left = left // 2
    return whole


def far(p, rule, begin, place):
    check_begin(p, rule, begin)
    if len(rule) > LONGEST:
        raise TooLarge(f"far places are told of rules of at most {LONGEST} numbers")
    if place < 0 or place > 10 ** 29:
        raise NoPlace(f"a far place is from nought to 10 ** 29, not {place}")
    if rule == []:
        return 0
    weights = weights_at(p, rule, place)
    return sum([weight * number for weight, number in zip(weights, begin)]) % p


def many_beginnings(p, rule):
    many = 1
    for place in range(len(rule)):
        many = many * p
    return many


def one_on(p, rule, numbers):
    longer = numbers + [told_at(p, numbers, rule, len(numbers))]
    return longer[1:]


# The walk ends: a rule that can be turned also tells the way back, so that of all the
# beginnings come by the first one met twice is the very first.
def round_of(p, rule, begin):
    check_begin(p, rule, begin)
    check_turn(rule)
    if many_beginnings(p, rule) > MOST_BEGINNINGS:
        raise TooLarge(f"rounds are told of rules of at most {MOST_BEGINNINGS} beginnings")
    numbers = one_on(p, rule, begin)
    places = 1
    while numbers != begin:
        numbers = one_on(p, rule, numbers)
        places += 1
    return places
