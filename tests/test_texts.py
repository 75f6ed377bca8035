"""Names, and UTF-8 held against Python's own reading of it."""

import itertools
import unittest

from cellsheets.texts import is_name
from cellsheets.utf8 import is_utf8


def python_reads(octets):
    try:
        bytes(octets).decode("utf-8")
    except UnicodeDecodeError:
        return False
    return True


class Utf8(unittest.TestCase):
    def check(self, octets):
        self.assertEqual(is_utf8(octets), python_reads(octets), octets)

    def test_nothing_is_well_made(self):
        self.assertTrue(is_utf8([]))

    def test_one_and_two_bytes(self):
        for first in range(256):
            self.check([first])
            for second in range(256):
                self.check([first, second])

    def test_three_and_four_bytes_at_the_edges(self):
        firsts = [0x41, 0xC2, 0xDF, 0xE0, 0xE1, 0xEC, 0xED, 0xEE, 0xEF, 0xF0, 0xF1, 0xF3, 0xF4, 0xF5, 0xFF]
        seconds = [0x41, 0x7F, 0x80, 0x8F, 0x90, 0x9F, 0xA0, 0xBF, 0xC0, 0xFF]
        behind = [0x41, 0x7F, 0x80, 0xBF, 0xC0, 0xE0]
        for octets in itertools.product(firsts, seconds, behind):
            self.check(list(octets))
        for octets in itertools.product(firsts, seconds, behind, behind):
            self.check(list(octets))

    def test_numbers_that_are_no_bytes(self):
        self.assertFalse(is_utf8([-1]))
        self.assertFalse(is_utf8([256]))
        self.assertFalse(is_utf8([0xC2, 256 + 0x80]))
        self.assertFalse(is_utf8([0x41, 2 ** 127 - 1]))


class Names(unittest.TestCase):
    def test_lengths(self):
        self.assertFalse(is_name([]))
        self.assertTrue(is_name([65]))
        self.assertTrue(is_name([65] * 64))
        self.assertFalse(is_name([65] * 65))

    def test_bytes(self):
        for octet in range(-1, 257):
            letter = chr(octet) if octet >= 0 else "?"
            self.assertEqual(is_name([octet]), letter in "ABCDEFGHIJKLMNOPQRSTUVWXYZ_")
            self.assertEqual(is_name([65, octet]), letter in "ABCDEFGHIJKLMNOPQRSTUVWXYZ_0123456789.")


if __name__ == "__main__":
    unittest.main()
