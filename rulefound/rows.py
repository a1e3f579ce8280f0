"""Rows that go by a rule, and rows that are gone on with."""

from rulefound.basics import MOST, check_prime, check_row, check_rule, told_at
from rulefound.errors import NoPlace, NoRow


def goes(p, row, rule):
    check_prime(p)
    check_row(p, row)
    check_rule(p, rule)
    return all([row[place] == told_at(p, row, rule, place) for place in range(len(rule), len(row))])


def gone_on(p, row, rule, many):
    check_prime(p)
    check_row(p, row)
    check_rule(p, rule)
    if len(row) < len(rule):
        raise NoRow("the row is shorter than the rule")
    if many < 0 or many > MOST:
        raise NoPlace(f"a row is gone on with by nought to {MOST} numbers, not by {many}")
    longer = list(row)
    for place in range(len(row), len(row) + many):
        longer.append(told_at(p, longer, rule, place))
    return longer
