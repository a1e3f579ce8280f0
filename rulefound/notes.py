"""Rows written with their primes, and read again."""

from rulefound.basics import MOST, PRIMES, check_prime, check_row
from rulefound.errors import NoNote


def written_prime(p):
    return f"{p}:"


def shown(p, row):
    check_prime(p)
    check_row(p, row)
    return " ".join([written_prime(p)] + [str(number) for number in row])


# Words are held against what would be written: so no other way to write a number gets through.
def read_prime(word):
    for p in PRIMES:
        if word == written_prime(p):
            return p
    raise NoNote(f"{word!r} is no prime from 2 to 97 with a colon behind")


def read_number(p, word):
    for number in range(p):
        if word == str(number):
            return number
    raise NoNote(f"{word!r} is no number from nought to below {p}")


# Parted at each single blank, a blank too many leaves a word without signs, which is refused.
def read(text):
    words = text.split(" ")
    p = read_prime(words[0])
    row = [read_number(p, word) for word in words[1:]]
    if len(row) > MOST:
        raise NoNote(f"a row has at most {MOST} numbers")
    return (p, row)
