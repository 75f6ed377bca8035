"""Promise 4: clear."""

import unittest

from tests.helper import (
    AREAS_THAT_ARE_NONE, BookCase, MOST, all_of, clear, define, fill, fixed, formula, gone, number, off, perform, put,
    text, to_area, to_cell,
)


class Refusals(BookCase):
    def setUp(self):
        super().setUp()
        self.done(put(0, 0, 0, number(1)), put(1, 4095, 255, formula(*to_cell(0, off(0, 0)))))

    def test_areas(self):
        for area in AREAS_THAT_ARE_NONE:
            self.assert_refused(-1, clear(0, *area))

    def test_sheets(self):
        for at_sheet in (3, 63, 64, MOST):
            self.assert_refused(-2, clear(at_sheet, 0, 0, 0, 0))
        self.done(gone(1))
        self.assert_refused(-2, clear(1, 0, 4095, 0, 255))

    def test_order(self):
        for area in AREAS_THAT_ARE_NONE:
            self.assert_refused(-1, clear(3, *area))


class Clear(BookCase):
    def put_some(self):
        self.done(
            put(0, 2, 2, number(1)), put(0, 2, 5, text(b"")), put(0, 4, 3, [0, 3, 0]), put(0, 5, 5, [0, 4, 1]),
            put(0, 1, 2, number(2)), put(0, 6, 5, number(3)), put(0, 2, 1, number(4)), put(0, 5, 6, number(5)),
            put(1, 3, 3, number(6)), put(0, 3, 3, formula(*to_cell(0, off(-1, -1)))),
        )

    def assert_cleared(self, many, *told):
        self.assertEqual(perform(self.book, [clear(*told)]), [[many]])

    def test_how_many_there_were_and_what_is_left(self):
        self.put_some()
        self.assert_cleared(5, 0, 2, 5, 2, 5)
        left = {
            (0, 1, 2): number(2), (0, 6, 5): number(3), (0, 2, 1): number(4), (0, 5, 6): number(5),
            (1, 3, 3): number(6),
        }
        self.assert_all(left)
        self.assert_cleared(0, 0, 2, 5, 2, 5)
        self.assert_all(left)

    def test_one_cell(self):
        self.put_some()
        self.assert_cleared(1, 0, 2, 2, 2, 2)
        self.assert_stands(0, 2, 2, None)
        self.assert_cleared(0, 0, 2, 2, 2, 2)
        self.assert_cleared(0, 0, 2, 2, 3, 4)

    def test_a_whole_sheet(self):
        self.put_some()
        self.done(put(0, 0, 0, number(7)), put(0, 4095, 255, number(8)))
        self.assert_cleared(11, 0, 0, 4095, 0, 255)
        self.assert_all({(1, 3, 3): number(6)})
        self.assert_cleared(0, 2, 0, 4095, 0, 255)

    def test_cells_that_were_emptied_do_not_count(self):
        self.put_some()
        self.done(put(0, 2, 2, [0, 0]), put(0, 3, 4, [0, 0]))
        self.assert_cleared(4, 0, 2, 5, 2, 5)

    def test_references_to_what_is_cleared_stay(self):
        reference = to_area(1, fixed(2, 2), fixed(5, 5))
        own = formula(6, 1, *to_cell(1, fixed(2, 2)), *reference)
        self.done(put(1, 0, 0, own), put(0, 2, 2, number(1)), define("N", reference))
        self.assert_cleared(1, 0, 0, 4095, 0, 255)
        self.assert_all({(1, 0, 0): own})
        self.assert_names([("N", reference)])

    def test_it_makes_room(self):
        self.done(put(0, 0, 0, number(1)), fill(0, 0, 0, 0, 0, 0, 0, 63, 0, 255))
        self.assert_refused(-5, put(1, 0, 0, number(1)))
        self.assert_cleared(1, 0, 5, 5, 5, 5)
        self.done(put(1, 0, 0, number(1)))
        self.assert_refused(-5, put(1, 0, 1, number(1)))
        self.assert_cleared(16383, 0, 0, 4095, 0, 255)

    def test_sheets_and_titles_stay(self):
        before = all_of(self.book)
        self.put_some()
        self.done(clear(0, 0, 4095, 0, 255), clear(1, 0, 4095, 0, 255))
        self.assertEqual(all_of(self.book), before)


if __name__ == "__main__":
    unittest.main()
