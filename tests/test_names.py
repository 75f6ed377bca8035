"""Promises 5 and 6: name and names."""

import unittest

from tests.helper import (
    BookCase, COLUMNS, LOST, NAMES, NEW, ROWS, clear, define, delete, fill, fixed, formula, gone, insert, move, name,
    number, off, perform, put, sheet, to_area, to_cell,
)

CELL = to_cell(1, fixed(3, 4))
AREA = to_area(2, fixed(9, 9), fixed(1, 20))


def define_bytes(octets, reference):
    return [9, len(octets)] + list(octets) + [len(reference)] + reference


class NameCase(BookCase):
    def setUp(self):
        super().setUp()
        self.done(define("OLD", AREA))


class WhatIsAName(NameCase):
    def test_names(self):
        for letters in ("A", "Z", "_", "A0", "Z9.", "_._", "M_1.X", "Q" * 64):
            self.setUp()
            self.done(define(letters, CELL))
            self.assert_names([("OLD", AREA), (letters, CELL)])

    def test_what_is_none(self):
        for octets in (
            b"", b"0", b"9A", b".", b".A", b"a", b"Aa", b"A-", b"A ", b" A", b"A@", b"A[", b"A/", b"A:", b"A^", b"A`",
            b"@", b"[", b"\x00", b"A\x00", b"A\xff", "\u00c4".encode(), b"Q" * 65, b"Q" * 7800,
        ):
            self.assert_refused(-3, define_bytes(octets, CELL))
            self.assert_refused(-3, define_bytes(octets, []))
            self.assert_refused(-3, define_bytes(octets, [5]))


class WhatIsAReference(NameCase):
    def assert_none(self, reference):
        self.assert_refused(-3, define("N", reference))
        self.assert_refused(-3, define("OLD", reference))

    def assert_taken(self, reference):
        self.setUp()
        self.done(define("N", reference))
        self.assert_names([("OLD", AREA), ("N", reference)])

    def test_cells(self):
        for row, column in ((0, 0), (4095, 255), (0, 255), (4095, 0)):
            for told_sheet in (1, 2, 3):
                self.assert_taken(to_cell(told_sheet, fixed(row, column)))

    def test_areas_with_corners_in_any_order(self):
        for first in (fixed(9, 9), fixed(9, 1), fixed(1, 9), fixed(1, 1), fixed(0, 0), fixed(4095, 255)):
            for second in (fixed(9, 9), fixed(9, 1), fixed(1, 9), fixed(1, 1), fixed(0, 0), fixed(4095, 255)):
                self.assert_taken(to_area(3, first, second))

    def test_each_number_counts(self):
        for reference in (CELL, AREA):
            for end in range(1, len(reference)):
                self.assert_none(reference[:end])
            for more in (0, 1, 2):
                self.assert_none(reference + [more])
            self.assert_none(reference + reference)

    def test_no_other_formula(self):
        for told in (
            LOST, [0, 1, 5], [0, 0], [3] + name("OLD"), [4] + name("T") + [1, 65, 0], [5, 20] + CELL,
            [6, 1] + CELL + CELL, [7] + name("F") + [0], [7] + name("F") + [1] + CELL, [8, 1, 1, 1, 5],
            [9], [-1], [1], [2], [0], [1] + CELL, [1] + AREA,
        ):
            self.assert_none(told)

    def test_a_sheet_that_is_not_told(self):
        self.assert_none(to_cell(0, fixed(3, 4)))
        self.assert_none(to_area(0, fixed(3, 4), fixed(5, 6)))

    def test_a_sheet_that_is_not_there(self):
        for told_sheet in (-1, 4, 64, 65, 2 ** 127 - 1, -2 ** 127):
            self.assert_none(to_cell(told_sheet, fixed(3, 4)))
            self.assert_none(to_area(told_sheet, fixed(3, 4), fixed(5, 6)))
        self.done(gone(0))
        self.assert_none(CELL)

    def test_coordinates_that_are_not_fixed(self):
        for spot in (off(3, 4), [0, 3, 1, 4], [1, 3, 0, 4], off(0, 0), [2, 3, 1, 4], [1, 3, 2, 4], [-1, 3, 1, 4]):
            self.assert_none(to_cell(1, spot))
            self.assert_none(to_area(1, spot, fixed(5, 6)))
            self.assert_none(to_area(1, fixed(5, 6), spot))

    def test_what_leads_nowhere(self):
        for row, column in ((-1, 0), (0, -1), (4096, 0), (0, 256), (2 ** 127 - 1, 0), (0, -2 ** 127)):
            self.assert_none(to_cell(1, fixed(row, column)))
            self.assert_none(to_area(1, fixed(row, column), fixed(5, 6)))
            self.assert_none(to_area(1, fixed(5, 6), fixed(row, column)))

    def test_far_too_deep(self):
        self.assert_none([5, 20] * 3900)


class Order(NameCase):
    def test_at_first_there_is_none(self):
        self.assertEqual(perform(self.book, [NEW, NAMES]), [[0], [0]])

    def test_as_they_are_told(self):
        self.done(define("B", CELL))
        self.assertEqual(perform(self.book, [NAMES]), [[2, 3, 79, 76, 68] + AREA + [1, 66] + CELL])

    def test_a_new_one_is_the_last(self):
        self.done(define("C", CELL), define("A", AREA), define("B", CELL))
        self.assert_names([("OLD", AREA), ("C", CELL), ("A", AREA), ("B", CELL)])

    def test_one_anew_is_the_last_then(self):
        self.done(define("C", CELL), define("A", AREA), define("OLD", CELL))
        self.assert_names([("C", CELL), ("A", AREA), ("OLD", CELL)])
        self.done(define("OLD", CELL), define("A", AREA))
        self.assert_names([("C", CELL), ("OLD", CELL), ("A", AREA)])

    def test_one_taken_away(self):
        self.done(define("C", CELL), define("A", AREA))
        self.assertEqual(perform(self.book, [define("C", [])]), [[0]])
        self.assert_names([("OLD", AREA), ("A", AREA)])
        self.assert_refused(-2, define("C", []))
        self.done(define("C", AREA))
        self.assert_names([("OLD", AREA), ("A", AREA), ("C", AREA)])

    def test_one_that_is_not_there_is_not_taken_away(self):
        for letters in ("N", "OL", "OLDE", "_OLD"):
            self.assert_refused(-2, define(letters, []))
        self.done(define("OLD", []))
        self.assert_names([])
        self.assert_refused(-2, define("OLD", []))

    def test_formulas_with_a_name_stay_when_it_is_gone(self):
        self.done(put(0, 0, 0, formula(3, *name("OLD"))), define("OLD", []))
        self.assert_formula(0, 0, 0, [3] + name("OLD"))

    def test_new_leaves_none(self):
        self.assertEqual(perform(self.book, [NEW, sheet("A"), NAMES, define("OLD", [])]), [[0], [0], [0], [-2]])


class Full(BookCase):
    def test_256_names_and_one_more(self):
        letters = [f"N{at}" for at in range(256)]
        self.done(*[define(one, CELL) for one in letters[:255]])
        self.assertEqual(perform(self.book, [define(letters[255], CELL)]), [[0]])
        self.assert_refused(-5, define("ONE_MORE", CELL))
        self.assert_refused(-3, define("ONE_MORE", LOST))
        self.assert_refused(-3, define("ONE_MORE", to_cell(4, fixed(0, 0))))
        self.assert_refused(-3, define("one more", CELL))
        self.assert_refused(-2, define("ONE_MORE", []))
        self.done(define("N7", AREA))
        letters = letters[:7] + letters[8:]
        self.assert_names([(one, CELL) for one in letters] + [("N7", AREA)])
        self.assert_refused(-5, define("ONE_MORE", CELL))
        self.done(define("N0", []), define("ONE_MORE", CELL))
        self.assert_names([(one, CELL) for one in letters[1:]] + [("N7", AREA), ("ONE_MORE", CELL)])
        self.assert_refused(-5, define("N0", CELL))

    def test_names_of_what_is_gone_count(self):
        self.done(*[define(f"N{at}", CELL) for at in range(256)], gone(0), sheet("A"))
        self.assert_refused(-5, define("ONE_MORE", CELL))
        self.done(define("N1", CELL))
        self.assert_refused(-5, define("ONE_MORE", CELL))


class Behind(BookCase):
    """What changes make of names."""

    def setUp(self):
        super().setUp()
        self.done(
            define("CELL", to_cell(1, fixed(10, 5))), define("AREA", to_area(1, fixed(12, 6), fixed(8, 4))),
            define("OTHER", to_cell(2, fixed(10, 5))),
        )

    def assert_become(self, cell, area, other=to_cell(2, fixed(10, 5))):
        self.assert_names([("CELL", cell), ("AREA", area), ("OTHER", other)])

    def test_insert(self):
        self.done(insert(0, ROWS, 9, 2, 0, 255))
        self.assert_become(to_cell(1, fixed(12, 5)), to_area(1, fixed(14, 6), fixed(8, 4)))
        self.done(insert(0, COLUMNS, 0, 3, 0, 4095))
        self.assert_become(to_cell(1, fixed(12, 8)), to_area(1, fixed(14, 9), fixed(8, 7)))
        self.done(insert(0, ROWS, 0, 3, 8, 8))
        self.assert_become(to_cell(1, fixed(15, 8)), to_area(1, fixed(14, 9), fixed(8, 7)))
        self.done(insert(0, ROWS, 14, 4082, 0, 255))
        self.assert_become(LOST, to_area(1, fixed(4095, 9), fixed(8, 7)))

    def test_delete(self):
        self.done(delete(0, ROWS, 9, 1, 0, 255))
        self.assert_become(to_cell(1, fixed(9, 5)), to_area(1, fixed(11, 6), fixed(8, 4)))
        self.done(delete(0, COLUMNS, 5, 1, 0, 4095))
        self.assert_become(LOST, to_area(1, fixed(11, 5), fixed(8, 4)))
        self.done(delete(0, ROWS, 0, 100, 4, 5))
        self.assert_become(LOST, LOST)

    def test_move(self):
        self.done(move(0, 10, 10, 5, 5, 2, 0, 0))
        self.assert_become(to_cell(3, fixed(0, 0)), to_area(1, fixed(12, 6), fixed(8, 4)))
        self.done(move(0, 8, 12, 4, 6, 1, 20, 20))
        self.assert_become(to_cell(3, fixed(0, 0)), to_area(2, fixed(24, 22), fixed(20, 20)))
        self.done(move(0, 0, 100, 0, 100, 1, 0, 0))
        self.assert_become(to_cell(3, fixed(0, 0)), LOST, LOST)

    def test_gone(self):
        self.done(gone(0), sheet("A"))
        self.assert_become(LOST, LOST)
        self.done(gone(2))
        self.assert_become(LOST, LOST)
        self.done(gone(1))
        self.assert_become(LOST, LOST, LOST)

    def test_an_error_may_be_said_anew_or_taken_away(self):
        self.done(gone(0), define("CELL", AREA), define("AREA", []))
        self.assert_names([("OTHER", to_cell(2, fixed(10, 5))), ("CELL", AREA)])

    def test_set_fill_and_clear_leave_them(self):
        cell, area = to_cell(1, fixed(10, 5)), to_area(1, fixed(12, 6), fixed(8, 4))
        self.done(put(0, 10, 5, number(1)), fill(0, 10, 10, 5, 5, 0, 0, 20, 0, 20), clear(0, 0, 4095, 0, 255))
        self.assert_become(cell, area)


if __name__ == "__main__":
    unittest.main()
