"""What the tests share: how calls, contents and references are told, and how a workbook is looked at."""

import unittest

from cellsheets.book import Workbook
from cellsheets.reading import Reader
from cellsheets.workbook import answer_next

ROWS = 0
COLUMNS = 1

LAST_ROW = 4095
LAST_COLUMN = 255

MOST = 4294967295

# First and last row, first and last column.
AREAS_THAT_ARE_NONE = (
    (0, 4096, 0, 0), (4096, 4096, 0, 0), (0, 0, 0, 256), (0, 0, 256, 256), (1, 0, 0, 0), (0, 0, 1, 0),
    (4095, 4094, 0, 0), (0, 0, 255, 254), (MOST, MOST, 0, 0), (0, 0, MOST, MOST), (0, MOST, 0, MOST), (MOST, 0, 0, 0),
)

LOST = [0, 4, 3]

NEW = [0]
NAMES = [12]
SHEETS = [13]


def sheet(title):
    octets = list(title.encode()) if isinstance(title, str) else list(title)
    return [1, len(octets)] + octets


def gone(number):
    return [2, number]


def put(number, row, column, content):
    return [3, number, row, column, len(content)] + content


def insert(number, way, a, n, lo, hi):
    return [4, number, way, a, n, lo, hi]


def delete(number, way, a, n, lo, hi):
    return [5, number, way, a, n, lo, hi]


def move(number, first_row, last_row, first_column, last_column, to_sheet, to_row, to_column):
    return [6, number, first_row, last_row, first_column, last_column, to_sheet, to_row, to_column]


def fill(number, first_row, last_row, first_column, last_column, to_sheet, *target):
    return [7, number, first_row, last_row, first_column, last_column, to_sheet] + list(target)


def clear(number, first_row, last_row, first_column, last_column):
    return [8, number, first_row, last_row, first_column, last_column]


def define(letters, reference):
    """The call name; without a reference it takes the name away."""
    return [9] + name(letters) + [len(reference)] + reference


def look(number, row, column):
    return [10, number, row, column]


def cells(number, first_row, last_row, first_column, last_column):
    return [11, number, first_row, last_row, first_column, last_column]


def number(z):
    return [0, 1, z]


def text(octets):
    return [0, 2, len(octets)] + list(octets)


def name(letters):
    return [len(letters)] + [ord(letter) for letter in letters]


def formula(*numbers):
    return [1] + list(numbers)


def fixed(row, column):
    return [1, row, 1, column]


def off(rows, columns):
    return [0, rows, 0, columns]


def to_cell(told_sheet, spot):
    return [1, told_sheet] + spot


def to_area(told_sheet, first, second):
    return [2, told_sheet] + first + second


def flat(lists):
    return [item for one in lists for item in one]


def perform(book, calls):
    """The answers of the calls, one list each."""
    reader = Reader(flat(calls))
    told = []
    while not reader.is_at_end():
        told.append(answer_next(book, reader))
    return told


def answer_of(book, call):
    return perform(book, [call])[0]


def titles_of(book):
    """Of each sheet its number and its title, in the order in which they are told."""
    told = answer_of(book, SHEETS)
    many, rest = told[0], told[1:]
    found = []
    while rest:
        found.append((rest[0], rest[2:2 + rest[1]]))
        rest = rest[2 + rest[1]:]
    assert many == len(found), told
    return found


def names_of(book):
    """Of each name itself and its reference, in the order in which they are told."""
    told = answer_of(book, NAMES)
    many, rest = told[0], told[1:]
    lengths = {0: 3, 1: 6, 2: 10}
    found = []
    while rest:
        letters = bytes(rest[1:1 + rest[0]]).decode()
        rest = rest[1 + rest[0]:]
        found.append((letters, rest[:lengths[rest[0]]]))
        rest = rest[lengths[rest[0]]:]
    assert many == len(found), told
    return found


def spots_of(book, at_sheet, first_row=0, last_row=LAST_ROW):
    """Row and column of each cell of the sheet that has something; by halves, as no more than 1024 are told."""
    told = answer_of(book, cells(at_sheet, first_row, last_row, 0, LAST_COLUMN))
    if told[0] > 1024:
        middle = (first_row + last_row) // 2
        return spots_of(book, at_sheet, first_row, middle) + spots_of(book, at_sheet, middle + 1, last_row)
    spots = list(zip(told[1::2], told[2::2]))
    assert told[0] == len(spots), told
    return spots


def content_at(book, at_sheet, row, column):
    """The content that stands there, or None."""
    told = answer_of(book, look(at_sheet, row, column))
    assert told[0] == 1 or told == [0], told
    return told[1:] or None


def standing(book):
    """All contents, by sheet, row and column."""
    found = {}
    for at_sheet, title in titles_of(book):
        for row, column in spots_of(book, at_sheet):
            found[(at_sheet, row, column)] = content_at(book, at_sheet, row, column)
    return found


def all_of(book):
    return titles_of(book), standing(book), names_of(book)


class BookCase(unittest.TestCase):
    """A test on a workbook with the sheets A, B and C, which are 0, 1 and 2."""

    def setUp(self):
        self.book = Workbook()
        self.done(sheet("A"), sheet("B"), sheet("C"))

    def done(self, *calls):
        for answer in perform(self.book, calls):
            self.assertGreaterEqual(answer[0], 0, calls)

    def assert_refused(self, refusal, call):
        before = all_of(self.book)
        self.assertEqual(perform(self.book, [call]), [[refusal]], call)
        self.assertEqual(all_of(self.book), before, call)

    def assert_stands(self, at_sheet, row, column, content):
        self.assertEqual(content_at(self.book, at_sheet, row, column), content)

    def assert_formula(self, at_sheet, row, column, expected):
        self.assert_stands(at_sheet, row, column, [1] + expected)

    def assert_all(self, expected):
        self.assertEqual(standing(self.book), expected)

    def assert_names(self, expected):
        """Names and references, in their order."""
        self.assertEqual(names_of(self.book), expected)
