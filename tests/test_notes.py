"""Point 14: rows written with their primes, and read again."""

import random
import re
import unittest

from helpers import FAR, PRIMES, some_list
from rulefound.errors import NoNote
from rulefound.notes import read, shown

SIGNS = "\t\n" + "".join(chr(code) for code in range(ord(" "), ord("~") + 1) if chr(code) != "%")
FORM = re.compile(r"(0|[1-9][0-9]*):((?: (?:0|[1-9][0-9]*))*)")


def read_plainly(text):
    """What a text writes, or None, by its form and by its numbers as they stand."""
    found = FORM.fullmatch(text)
    if found is None:
        return None
    p, row = int(found[1]), [int(word) for word in found[2].split()]
    return (p, row) if p in PRIMES and len(row) <= 30 and all(number < p for number in row) else None


def spoilt_by_one_sign(text, signs):
    for place in range(len(text) + 1):
        for sign in signs:
            yield text[:place] + sign + text[place:]
            if place < len(text):
                yield text[:place] + sign + text[place + 1:]
        if place < len(text):
            yield text[:place] + text[place + 1:]


class Shown(unittest.TestCase):
    def test_known_rows(self):
        self.assertEqual(shown(7, [1, 0, 6]), "7: 1 0 6")
        self.assertEqual(shown(2, []), "2:")
        self.assertEqual(shown(2, [0]), "2: 0")
        self.assertEqual(shown(97, [96, 10, 0, 9]), "97: 96 10 0 9")
        self.assertEqual(shown(11, [10] * 30), "11:" + " 10" * 30)

    def test_written_rows_are_read_again(self):
        chance = random.Random(50)
        for p in PRIMES:
            for length in range(31):
                for row in (some_list(chance, p, length), [0] * length, [p - 1] * length):
                    text = shown(p, row)
                    self.assertIs(type(text), str)
                    self.assertEqual(text, str(p) + ":" + "".join(" " + str(number) for number in row))
                    told = read(text)
                    self.assertEqual(told, (p, row))
                    self.assertEqual([type(told), type(told[0]), type(told[1])], [tuple, int, list])

    def test_each_number_by_each_prime(self):
        for p in PRIMES:
            for number in range(p):
                self.assertEqual(shown(p, [number]), f"{p}: {number}")
                self.assertEqual(read(f"{p}: {number}"), (p, [number]))


class Read(unittest.TestCase):
    def assert_no_note(self, text):
        with self.subTest(text=text):
            with self.assertRaises(NoNote):
                read(text)

    def test_known_texts(self):
        self.assertEqual(read("7: 1 0 6"), (7, [1, 0, 6]))
        self.assertEqual(read("2:"), (2, []))
        self.assertEqual(read("97: 96"), (97, [96]))

    def test_no_prime(self):
        numbers = [n for n in range(-2, 140) if n not in PRIMES] + [199, 7919, 2 ** 61 - 1, FAR, -FAR]
        for p in numbers:
            for rest in ("", " 0", " 0 1", " 1" * 30):
                self.assert_no_note(f"{p}:{rest}")

    def test_numbers_of_the_prime_and_more(self):
        for p in PRIMES:
            for number in (p, p + 1, 2 * p, 100, 10 * p, -1, -p, FAR, -FAR):
                for row in ([number], [number, 0], [0, number], [0, number, 1], [0] * 29 + [number]):
                    self.assert_no_note(f"{p}: " + " ".join(map(str, row)))

    def test_other_ways_to_write_a_number(self):
        ways = "00 01 06 006 +1 -0 -1 1_0 0_1 _1 1_ a x1 1a 0x1 0b1 1e0 1.0 1. .1 1, (1) '1' one 1L 1j ~1 1: :1".split()
        for word in ways:
            for text in (f"97: {word}", f"97: 1 {word}", f"97: {word} 1", f"97: 1 {word} 1"):
                self.assert_no_note(text)
        for word in "07 007 +7 -7 _7 7_ 0_7 7.0 seven 7a a7 7,".split() + [""]:
            for text in (f"{word}:", f"{word}: 1", f"{word}: 1 0 6"):
                self.assert_no_note(text)

    def test_colons_and_blanks_gone_put_otherwise_or_doubled(self):
        for text in (
            "", ":", "::", " ", "  ", ": ", " :", ": 1", ":1", "7", "7 ", "7 1", "7 1 0 6", "7 : 1 0 6", "7 :", "7 :1",
            "7:1", "7:1 0", "7:1 0 6", "7:106:", "7:: 1 0 6", "7::", "7:: ", "7: : 1", "7: 1: 0 6", "7: 1 0 6:",
            "7: 1 :0 6", ":7 1 0 6", "7:  1 0 6", "7: 1  0 6", "7: 1 0  6", "7: 1 0 6 ", " 7: 1 0 6", "7: ", " 7:",
            "7:  ", "7: 1 06", "7: 10 6", "7: 1 0 6 7", "7; 1 0 6", "7. 1 0 6", "7= 1 0 6", "7, 1 0 6", "7: 1,0,6",
            "7: 1, 0, 6", "7: [1, 0, 6]", "7: 1 0 6\n", "\n7: 1 0 6", "7:\n1 0 6", "7: 1\n0 6", "7:\t1 0 6",
            "7: 1\t0 6", "\t7: 1 0 6", "7: 1 0 6\t", "7:\n", "7:\t", "7 \n: 1", "7\t:", "7: \n1", "7: 1\n", "7: 1 \n",
            "7: \t1", "\t", "\n", "7: 1 0\n7: 1 0",
        ):
            self.assert_no_note(text)

    def test_thirty_one_numbers_and_more(self):
        for p in PRIMES:
            self.assertEqual(read(f"{p}:" + " 1" * 30), (p, [1] * 30))
            for many in (31, 32, 60, 98):
                self.assert_no_note(f"{p}:" + " 0" * many)
                self.assert_no_note(f"{p}:" + " 1" * many)

    def test_texts_of_200_signs(self):
        for sign in SIGNS:
            self.assert_no_note(sign)
            self.assert_no_note(sign * 200)
            self.assert_no_note("7:" + sign * 198)
            self.assert_no_note("7: " + sign * 197)
        self.assert_no_note("7: " + "0" * 196 + "1")
        self.assert_no_note("0" * 198 + "7:")

    def test_all_short_texts_of_a_few_signs(self):
        texts = [""]
        for length in range(6):
            for text in texts:
                self.assert_told(text)
            texts = [text + sign for text in texts for sign in "0237: \n"]

    def test_one_sign_more_less_or_other(self):
        for text in ("2:", "7: 1 0 6", "97: 96", "13: 0 12 10", "2: 1 1 0"):
            for spoilt in spoilt_by_one_sign(text, SIGNS):
                self.assert_told(spoilt)
        for spoilt in spoilt_by_one_sign(shown(97, list(range(60, 90))), "\t\n 0:-+_a"):
            self.assert_told(spoilt)

    def assert_told(self, text):
        told = read_plainly(text)
        if told is None:
            with self.assertRaises(NoNote, msg=repr(text)):
                read(text)
        else:
            self.assertEqual(read(text), told)
