"""The shortest rule of a row, its lengths, and the paper by which no shorter rule will do.

The numbers of a row are taken one by one. With a shortest rule of those taken so far
the weights of their paper are kept: by them the rule is mended where it misses the next
number, and where that makes it longer the miss itself is the next paper.
"""

from rulefound.basics import check_prime, check_row, inverse, told_at


# Told by the weights alone, the next number would be 1, and each number ahead of it
# that the mended rule has to tell would be nought: so the miss is made good there
# and nothing is spoilt elsewhere. While only noughts are taken all weights are nought,
# and the mended rule is so long that it has nothing to tell.
def mended(p, rule, weights, miss):
    longer = rule + [0] * max(0, len(weights) + 1 - 2 * len(rule))
    backward = list(reversed(weights)) + [0]
    return [(number + miss * weight) % p for number, weight in zip(longer, backward)]


# The number at the place less what the rule tells there is the miss, and the same at
# each place ahead, down to the rule's length, is nought: divided by the miss, these are
# the sums that a paper has to keep.
def weights_of_miss(p, rule, place, miss):
    share = inverse(p, miss)
    ahead = [-share * number % p for number in reversed(rule)]
    return [0] * (place - len(rule)) + ahead + [share]


class Search:
    def __init__(self, p):
        self.p = p
        self.taken = []
        self.rule = []
        self.weights = []
        self.lengths = [0]

    def take(self, number):
        place = len(self.taken)
        miss = (number - told_at(self.p, self.taken, self.rule, place)) % self.p
        if miss == 0:
            self.weights.append(0)
        else:
            self.mend(place, miss)
        self.taken.append(number)
        self.lengths.append(len(self.rule))

    def mend(self, place, miss):
        old = self.rule
        self.rule = mended(self.p, old, self.weights, miss)
        if len(self.rule) > len(old):
            self.weights = weights_of_miss(self.p, old, place, miss)
        else:
            self.weights.append(0)


def searched(p, row):
    check_prime(p)
    check_row(p, row)
    search = Search(p)
    for number in row:
        search.take(number)
    return search


def shortest(p, row):
    return searched(p, row).rule


def lengths(p, row):
    return searched(p, row).lengths


def paper(p, row):
    search = searched(p, row)
    if search.rule == []:
        return None
    return search.weights
