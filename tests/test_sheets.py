"""Promise 1: new, sheet, gone."""

import unittest

from tests.helper import (
    BookCase, LOST, NEW, all_of, define, fixed, formula, gone, number, off, perform, put, sheet, standing, to_area,
    to_cell,
)
from cellsheets.book import Workbook


class New(BookCase):
    def test_all_is_as_at_first(self):
        self.done(put(0, 0, 0, number(1)), define("A", to_cell(1, fixed(0, 0))))
        self.assertEqual(perform(self.book, [NEW]), [[0]])
        self.assertEqual(all_of(self.book), all_of(Workbook()))

    def test_sheets_begin_at_0_again(self):
        self.assertEqual(perform(self.book, [NEW, gone(0), sheet("A"), sheet("Z")]), [[0], [-2], [0], [1]])
        self.assert_all({})


class Titles(BookCase):
    def test_lengths(self):
        self.assert_refused(-3, sheet(""))
        self.assertEqual(perform(self.book, [sheet("x"), sheet("y" * 64)]), [[3], [4]])
        self.assert_refused(-3, sheet("z" * 65))
        self.assert_refused(-3, sheet("z" * 7900))

    def test_lengths_are_of_bytes_not_of_letters(self):
        self.assertEqual(perform(self.book, [sheet("\u00e9" * 32)]), [[3]])
        self.assert_refused(-3, sheet("\u00e9" * 33))

    def test_bytes_below_32(self):
        for octet in range(32):
            self.assert_refused(-3, sheet([65, octet]))
        self.assertEqual(perform(self.book, [sheet([32]), sheet([127])]), [[3], [4]])

    def test_utf8_that_is_well_made(self):
        for at, title in enumerate(["\u0080", "\u07ff", "\u0800", "\ud7ff", "\ue000", "\uffff", "\U00010000",
                                    "\U0010ffff"]):
            self.assertEqual(perform(self.book, [sheet(title)]), [[3 + at]])

    def test_utf8_that_is_not_well_made(self):
        for octets in (b"\x80", b"\xbf", b"\xc3", b"\xc3A", b"\xc0\xaf", b"\xc1\xbf", b"\xe0\x80\xaf", b"\xe0\x9f\xbf",
                       b"\xed\xa0\x80", b"\xed\xbf\xbf", b"\xe2\x82", b"\xe2\x82A", b"\xf0\x8f\xbf\xbf",
                       b"\xf0\x9f\x98", b"\xf0\x9f\x98A", b"\xf4\x90\x80\x80", b"\xf5\x80\x80\x80",
                       b"\xf8\x88\x80\x80\x80", b"\xfe", b"\xff", b"ok\xff"):
            self.assert_refused(-3, sheet(octets))

    def test_a_title_that_another_sheet_has(self):
        self.assert_refused(-4, sheet("A"))
        self.assert_refused(-4, sheet("C"))
        self.assertEqual(perform(self.book, [sheet("a"), sheet("AA")]), [[3], [4]])

    def test_the_title_of_a_sheet_that_is_gone_is_free(self):
        self.assertEqual(perform(self.book, [gone(1), sheet("B")]), [[0], [1]])


class Numbers(BookCase):
    def test_the_least_number_that_is_not_there(self):
        self.done(sheet("D"), gone(2), gone(0))
        self.assertEqual(perform(self.book, [sheet("x"), sheet("y"), sheet("z")]), [[0], [2], [4]])

    def test_64_sheets(self):
        for at in range(3, 64):
            self.assertEqual(perform(self.book, [sheet(f"sheet {at}")]), [[at]])
        self.assert_refused(-5, sheet("one more"))
        self.assertEqual(perform(self.book, [gone(17), sheet("one more")]), [[0], [17]])
        self.assert_refused(-5, sheet("another"))

    def test_order_of_refusals(self):
        for at in range(3, 64):
            self.done(sheet(f"sheet {at}"))
        self.assert_refused(-3, sheet(""))
        self.assert_refused(-4, sheet("A"))


class Gone(BookCase):
    def test_a_sheet_that_is_not_there(self):
        self.assert_refused(-2, gone(3))
        self.assert_refused(-2, gone(64))
        self.assert_refused(-2, gone(4294967295))
        self.done(gone(1))
        self.assert_refused(-2, gone(1))

    def test_its_cells_are_gone_and_no_others(self):
        self.done(put(0, 1, 1, number(1)), put(1, 1, 1, number(2)), put(2, 1, 1, number(3)), gone(1))
        self.assert_all({(0, 1, 1): number(1), (2, 1, 1): number(3)})
        self.done(sheet("B"))
        self.assertNotIn((1, 1, 1), standing(self.book))

    def test_references_to_it_are_errors(self):
        there = to_cell(3, off(0, 0))
        self.done(
            put(0, 0, 0, formula(*to_cell(2, fixed(5, 5)))),
            put(0, 1, 0, formula(*to_area(2, off(5, 5), fixed(0, 0)))),
            put(0, 2, 0, formula(6, 1, *to_cell(2, off(1, 1)), *there)),
            gone(1),
        )
        self.assert_formula(0, 0, 0, LOST)
        self.assert_formula(0, 1, 0, LOST)
        self.assert_formula(0, 2, 0, [6, 1] + LOST + there)

    def test_other_references_stay(self):
        own = formula(6, 3, *to_cell(0, off(3, 3)), *to_area(1, fixed(0, 0), off(1, 1)))
        self.done(put(0, 7, 7, own), gone(1))
        self.assert_all({(0, 7, 7): own})

    def test_a_new_sheet_of_that_number_is_another_one(self):
        self.done(put(0, 0, 0, formula(*to_cell(2, fixed(5, 5)))), gone(1), sheet("B"))
        self.assert_formula(0, 0, 0, LOST)

    def test_names_of_it_are_errors(self):
        other = to_area(3, fixed(3, 4), fixed(0, 0))
        self.done(
            define("B", to_cell(2, fixed(3, 4))), define("A", to_area(2, fixed(3, 4), fixed(0, 0))), define("C", other),
            gone(1),
        )
        self.assert_names([("B", LOST), ("A", LOST), ("C", other)])


if __name__ == "__main__":
    unittest.main()
