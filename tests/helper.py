"""What the tests share: how calls, contents and references are told, and how a workbook is looked at."""

import unittest

from cellsheets.book import Workbook
from cellsheets.reading import Reader
from cellsheets.workbook import answer_next

ROWS = 0
COLUMNS = 1

LOST = [0, 4, 3]

NEW = [0]


def sheet(title):
    octets = list(title.encode()) if isinstance(title, str) else list(title)
    return [1, len(octets)] + octets


def gone(number):
    return [2, number]


def put(number, row, column, content):
    return [3, number, row, column, len(content)] + content


def insert(number, way, a, n, lo, hi):
    return [4, number, way, a, n, lo, hi]


def delete(number, way, a, n, lo, hi):
    return [5, number, way, a, n, lo, hi]


def move(number, first_row, last_row, first_column, last_column, to_sheet, to_row, to_column):
    return [6, number, first_row, last_row, first_column, last_column, to_sheet, to_row, to_column]


def number(z):
    return [0, 1, z]


def text(octets):
    return [0, 2, len(octets)] + list(octets)


def name(letters):
    return [len(letters)] + [ord(letter) for letter in letters]


def formula(*numbers):
    return [1] + list(numbers)


def fixed(row, column):
    return [1, row, 1, column]


def off(rows, columns):
    return [0, rows, 0, columns]


def to_cell(told_sheet, spot):
    return [1, told_sheet] + spot


def to_area(told_sheet, first, second):
    return [2, told_sheet] + first + second


def flat(lists):
    return [item for one in lists for item in one]


def perform(book, calls):
    """The answers of the calls, one list each."""
    reader = Reader(flat(calls))
    told = []
    while not reader.is_at_end():
        told.append(answer_next(book, reader))
    return told


def numbers_of(content):
    return [content.kind] + flat(content.parts)


def standing(book):
    """All contents, by sheet, row and column."""
    found = {}
    for at_sheet, contents in book.cells.items():
        for spot, content in contents.items():
            found[(at_sheet,) + spot] = numbers_of(content)
    return found


def names_of(book):
    return [(told, list(reference)) for told, reference in book.names.items()]


def all_of(book):
    titles = {at: list(title) for at, title in book.titles.items()}
    return titles, sorted(book.cells), standing(book), names_of(book)


class BookCase(unittest.TestCase):
    """A test on a workbook with the sheets A, B and C, which are 0, 1 and 2."""

    def setUp(self):
        self.book = Workbook()
        self.done(sheet("A"), sheet("B"), sheet("C"))

    def done(self, *calls):
        for answer in perform(self.book, calls):
            self.assertGreaterEqual(answer[0], 0, calls)

    def assert_refused(self, refusal, call):
        before = all_of(self.book)
        self.assertEqual(perform(self.book, [call]), [[refusal]], call)
        self.assertEqual(all_of(self.book), before, call)

    def assert_stands(self, at_sheet, row, column, content):
        self.assertEqual(standing(self.book).get((at_sheet, row, column)), content)

    def assert_formula(self, at_sheet, row, column, expected):
        self.assert_stands(at_sheet, row, column, [1] + expected)

    def assert_all(self, expected):
        self.assertEqual(standing(self.book), expected)
