"""Promise 3: move."""

import unittest

from tests.helper import (
    BookCase, LOST, define, fixed, formula, gone, move, number, off, perform, put, standing, to_area, to_cell,
)


class Refusals(BookCase):
    def test_areas(self):
        most = 4294967295
        for first_row, last_row, first_column, last_column in (
            (0, 4096, 0, 0), (4096, 4096, 0, 0), (0, 0, 0, 256), (0, 0, 256, 256), (1, 0, 0, 0), (0, 0, 1, 0),
            (4095, 0, 0, 0), (most, most, 0, 0), (0, 0, most, most), (0, most, 0, most), (most, 0, 0, 0),
        ):
            self.assert_refused(-1, move(0, first_row, last_row, first_column, last_column, 1, 0, 0))

    def test_where_to(self):
        for to_row, to_column in ((4096, 0), (0, 256), (4294967295, 0), (0, 4294967295)):
            self.assert_refused(-1, move(0, 0, 0, 0, 0, 1, to_row, to_column))
        self.assertEqual(perform(self.book, [move(0, 0, 0, 0, 0, 1, 4095, 255)]), [[0]])

    def test_beyond_the_sheet(self):
        self.assert_refused(-1, move(0, 0, 2, 0, 0, 1, 4094, 0))
        self.assert_refused(-1, move(0, 0, 0, 0, 2, 1, 0, 254))
        self.assert_refused(-1, move(0, 0, 4095, 0, 0, 0, 1, 0))
        self.assert_refused(-1, move(0, 0, 0, 0, 255, 0, 0, 1))
        self.assert_refused(-1, move(0, 4000, 4001, 0, 0, 0, 4095, 0))
        self.assertEqual(perform(self.book, [
            move(0, 0, 2, 0, 2, 1, 4093, 253), move(0, 4090, 4095, 250, 255, 0, 0, 0), move(0, 0, 4095, 0, 255, 1, 0, 0),
        ]), [[0], [0], [0]])

    def test_last_before_first_though_it_would_come_onto_the_sheet(self):
        self.assert_refused(-1, move(0, 10, 5, 0, 0, 0, 20, 0))
        self.assert_refused(-1, move(0, 0, 0, 10, 5, 0, 0, 20))

    def test_sheets(self):
        self.assert_refused(-2, move(3, 0, 0, 0, 0, 0, 0, 0))
        self.assert_refused(-2, move(0, 0, 0, 0, 0, 3, 0, 0))
        self.assert_refused(-2, move(64, 0, 0, 0, 0, 4294967295, 0, 0))
        self.done(gone(1))
        self.assert_refused(-2, move(1, 0, 0, 0, 0, 0, 0, 0))
        self.assert_refused(-2, move(0, 0, 0, 0, 0, 1, 0, 0))

    def test_order(self):
        self.assert_refused(-1, move(3, 1, 0, 0, 0, 0, 0, 0))
        self.assert_refused(-1, move(0, 0, 2, 0, 0, 3, 4094, 0))
        self.assert_refused(-1, move(3, 0, 0, 0, 0, 3, 0, 256))

    def test_all_is_as_it_was(self):
        self.done(put(0, 0, 0, number(1)), put(1, 0, 0, formula(*to_cell(1, fixed(0, 0)))))
        self.assert_refused(-1, move(0, 0, 1, 0, 0, 0, 4095, 0))
        self.assert_refused(-2, move(0, 0, 1, 0, 0, 5, 7, 7))


class Cells(BookCase):
    def test_its_cells_go_there(self):
        self.done(put(0, 1, 1, number(1)), put(0, 2, 3, number(2)), put(0, 3, 3, number(3)), put(0, 1, 4, number(4)))
        self.done(move(0, 1, 2, 1, 3, 0, 10, 20))
        self.assert_all({
            (0, 10, 20): number(1), (0, 11, 22): number(2), (0, 3, 3): number(3), (0, 1, 4): number(4),
        })

    def test_to_another_sheet(self):
        self.done(put(0, 1, 1, number(1)), put(1, 1, 1, number(2)), put(1, 0, 0, number(3)), move(0, 1, 2, 1, 2, 1, 0, 0))
        self.assert_all({(1, 0, 0): number(1)})

    def test_what_stood_there_is_gone_also_where_nothing_comes(self):
        self.done(put(0, 1, 1, number(1)), put(0, 10, 10, number(2)), put(0, 11, 11, number(3)))
        self.done(put(0, 12, 11, number(4)), put(0, 9, 10, number(5)), put(1, 10, 10, number(6)))
        self.done(move(0, 1, 2, 1, 2, 0, 10, 10))
        self.assert_all({
            (0, 10, 10): number(1), (0, 12, 11): number(4), (0, 9, 10): number(5), (1, 10, 10): number(6),
        })

    def test_over_itself(self):
        self.done(*[put(0, row, 0, number(row)) for row in range(6)])
        self.done(move(0, 1, 3, 0, 0, 0, 2, 0))
        self.assert_all({
            (0, 0, 0): number(0), (0, 2, 0): number(1), (0, 3, 0): number(2), (0, 4, 0): number(3),
            (0, 5, 0): number(5),
        })
        self.done(move(0, 2, 4, 0, 0, 0, 1, 0))
        self.assert_all({
            (0, 0, 0): number(0), (0, 1, 0): number(1), (0, 2, 0): number(2), (0, 3, 0): number(3),
            (0, 5, 0): number(5),
        })

    def test_to_where_it_is(self):
        self.done(put(0, 1, 1, number(1)), put(0, 2, 2, formula(*to_area(0, fixed(1, 1), off(0, 0)))))
        before = standing(self.book)
        self.done(move(0, 0, 5, 0, 5, 0, 0, 0))
        self.assert_all(before)


class CellReferences(BookCase):
    def test_to_a_cell_that_goes(self):
        for told_sheet in (0, 1):
            for spot, after in ((fixed(2, 2), fixed(12, 22)), (off(-48, -48), off(-38, -28))):
                self.setUp()
                self.done(put(0, 50, 50, formula(*to_cell(told_sheet, spot))), move(0, 1, 3, 1, 3, 0, 11, 21))
                self.assert_formula(0, 50, 50, to_cell(told_sheet, after))

    def test_to_the_edges_of_what_goes(self):
        for row, column, goes in (
            (1, 1, True), (3, 3, True), (1, 3, True), (3, 1, True), (0, 1, False), (4, 1, False), (1, 0, False),
            (1, 4, False), (10, 20, False), (14, 24, False),
        ):
            self.setUp()
            self.done(put(1, 0, 0, formula(*to_cell(1, fixed(row, column)))), move(0, 1, 3, 1, 3, 0, 11, 21))
            after = fixed(row + 10, column + 20) if goes else fixed(row, column)
            self.assert_formula(1, 0, 0, to_cell(1, after))

    def test_to_a_cell_where_it_comes_to(self):
        for row, column in ((11, 21), (13, 23), (12, 22)):
            self.setUp()
            self.done(put(1, 0, 0, formula(*to_cell(1, fixed(row, column)))), move(0, 1, 3, 1, 3, 0, 11, 21))
            self.assert_formula(1, 0, 0, LOST)

    def test_over_itself(self):
        cases = ((1, 3), (2, 4), (3, 5), (4, None), (5, None), (6, 6), (0, 0))
        self.done(*[put(1, 0, row, formula(*to_cell(1, fixed(row, 0)))) for row, after in cases])
        self.done(move(0, 1, 3, 0, 0, 0, 3, 0))
        for row, after in cases:
            self.assert_formula(1, 0, row, LOST if after is None else to_cell(1, fixed(after, 0)))

    def test_to_the_same_place_of_another_sheet(self):
        self.done(put(2, 0, 0, formula(*to_cell(2, fixed(12, 22)))), put(2, 0, 1, formula(*to_cell(2, fixed(2, 2)))))
        self.done(move(0, 1, 3, 1, 3, 0, 11, 21))
        self.assert_formula(2, 0, 0, to_cell(2, fixed(12, 22)))
        self.assert_formula(2, 0, 1, to_cell(2, fixed(2, 2)))

    def test_from_a_formula_that_goes(self):
        self.done(put(0, 2, 2, formula(6, 1, *to_cell(0, off(5, 5)), *to_cell(0, fixed(9, 9)))))
        self.done(move(0, 1, 3, 1, 3, 0, 11, 21))
        self.assert_all({(0, 12, 22): formula(6, 1, *to_cell(0, off(-5, -15)), *to_cell(0, fixed(9, 9)))})

    def test_both_go(self):
        self.done(put(0, 2, 2, formula(6, 1, *to_cell(0, off(1, -1)), *to_cell(0, fixed(1, 1)))))
        self.done(move(0, 1, 3, 1, 3, 0, 11, 21))
        self.assert_all({(0, 12, 22): formula(6, 1, *to_cell(0, off(1, -1)), *to_cell(0, fixed(11, 21)))})

    def test_a_formula_comes_where_its_reference_led_to(self):
        self.done(put(0, 2, 2, formula(*to_cell(0, off(10, 20)))), move(0, 1, 3, 1, 3, 0, 11, 21))
        self.assert_all({(0, 12, 22): formula(*LOST)})


class Sheets(BookCase):
    """How the sheet of a reference is told when formulas or cells go to another one."""

    def test_the_formula_goes(self):
        self.done(put(0, 2, 2, formula(6, 1, *to_cell(0, off(5, 5)), *to_cell(1, fixed(9, 9)))))
        self.done(move(0, 1, 3, 1, 3, 1, 1, 1))
        self.assert_all({(1, 2, 2): formula(6, 1, *to_cell(1, off(5, 5)), *to_cell(1, fixed(9, 9)))})

    def test_the_formula_goes_where_its_told_reference_leads(self):
        self.done(put(0, 2, 2, formula(*to_cell(2, off(5, 5)))), move(0, 1, 3, 1, 3, 1, 1, 1))
        self.assert_all({(1, 2, 2): formula(*to_cell(2, off(5, 5)))})

    def test_the_cell_goes(self):
        self.done(put(0, 9, 9, formula(6, 1, *to_cell(0, off(-7, -7)), *to_cell(1, fixed(2, 2)))))
        self.done(move(0, 1, 3, 1, 3, 1, 1, 1))
        self.assert_all({(0, 9, 9): formula(6, 1, *to_cell(2, off(-7, -7)), *to_cell(2, fixed(2, 2)))})

    def test_both_go(self):
        self.done(put(0, 2, 2, formula(6, 1, *to_cell(0, off(1, 1)), *to_cell(1, fixed(1, 1)))))
        self.done(move(0, 1, 3, 1, 3, 1, 1, 1))
        self.assert_all({(1, 2, 2): formula(6, 1, *to_cell(0, off(1, 1)), *to_cell(2, fixed(1, 1)))})

    def test_there_and_back_it_stays_told(self):
        self.done(put(0, 2, 2, formula(*to_cell(0, off(5, 5)))))
        self.done(move(0, 2, 2, 2, 2, 1, 2, 2), move(1, 2, 2, 2, 2, 0, 2, 2))
        self.assert_all({(0, 2, 2): formula(*to_cell(1, off(5, 5)))})

    def test_areas(self):
        told = to_area(0, off(5, 5), fixed(1, 1))
        self.done(put(0, 2, 2, formula(*told)), move(0, 2, 2, 2, 2, 1, 3, 4))
        self.assert_all({(1, 3, 4): formula(*to_area(1, off(4, 3), fixed(1, 1)))})
        self.done(move(0, 0, 9, 0, 9, 1, 10, 10))
        self.assert_all({(1, 3, 4): formula(*to_area(2, off(14, 13), fixed(11, 11)))})

    def test_areas_that_go_with_their_formula(self):
        self.done(put(0, 2, 2, formula(*to_area(0, off(5, 5), fixed(1, 1)))), move(0, 0, 9, 0, 9, 1, 10, 10))
        self.assert_all({(1, 12, 12): formula(*to_area(0, off(5, 5), fixed(11, 11)))})

    def test_cells_of_the_other_sheet_where_it_comes_to_are_gone(self):
        self.done(put(2, 0, 0, formula(6, 1, *to_cell(2, fixed(2, 2)), *to_cell(1, fixed(2, 2)))))
        self.done(move(0, 1, 3, 1, 3, 1, 1, 1))
        self.assert_all({(2, 0, 0): formula(6, 1, *LOST, *to_cell(2, fixed(2, 2)))})


class AreaReferences(BookCase):
    def check(self, call, before, after):
        """Areas are told as first and last row, first and last column; each order of the corners is tried."""
        for up in (False, True):
            for left in (False, True):
                with self.subTest(call=call, before=before, up=up, left=left):
                    self.setUp()
                    self.done(put(1, 0, 0, formula(*self.told(before, up, left))), call)
                    self.assert_formula(1, 0, 0, LOST if after is None else self.told(after, up, left))

    def told(self, area, up, left):
        rows = area[1::-1] if up else area[0:2]
        columns = area[:1:-1] if left else area[2:4]
        return to_area(1, fixed(rows[0], columns[0]), [0, rows[1], 1, columns[1]])

    def test_apart(self):
        call = move(0, 5, 8, 5, 8, 0, 20, 30)
        for before, after in (
            ((5, 8, 5, 8), (20, 23, 30, 33)),
            ((6, 7, 6, 7), (21, 22, 31, 32)),
            ((5, 5, 5, 5), (20, 20, 30, 30)),
            ((4, 8, 5, 8), (4, 8, 5, 8)),
            ((5, 9, 5, 8), (5, 9, 5, 8)),
            ((5, 8, 4, 8), (5, 8, 4, 8)),
            ((5, 8, 5, 9), (5, 8, 5, 9)),
            ((0, 40, 0, 40), (0, 40, 0, 40)),
            ((20, 23, 30, 33), None),
            ((21, 21, 30, 33), None),
            ((19, 23, 30, 33), (19, 23, 30, 33)),
            ((20, 24, 30, 33), (20, 24, 30, 33)),
            ((20, 23, 29, 33), (20, 23, 29, 33)),
            ((20, 23, 30, 34), (20, 23, 30, 34)),
            ((10, 12, 10, 12), (10, 12, 10, 12)),
        ):
            self.check(call, before, after)

    def test_over_itself(self):
        call = move(0, 5, 8, 5, 8, 0, 7, 5)
        for before, after in (
            ((5, 8, 5, 8), (7, 10, 5, 8)),
            ((7, 8, 5, 8), (9, 10, 5, 8)),
            ((7, 10, 5, 8), None),
            ((8, 9, 5, 8), None),
            ((9, 10, 5, 8), None),
            ((6, 9, 5, 8), (6, 9, 5, 8)),
        ):
            self.check(call, before, after)

    def test_from_a_formula_that_goes(self):
        self.done(put(0, 6, 6, formula(*to_area(0, off(-2, 0), fixed(30, 3)))), move(0, 5, 8, 5, 8, 0, 20, 30))
        self.assert_all({(0, 21, 31): formula(*to_area(0, off(-17, -25), fixed(30, 3)))})


class Names(BookCase):
    def test_names_are_said_anew(self):
        told = [
            to_cell(1, fixed(6, 6)), to_area(1, fixed(8, 5), fixed(5, 8)), to_cell(2, fixed(21, 31)),
            to_area(2, fixed(20, 30), fixed(23, 33)), to_area(1, fixed(4, 5), fixed(8, 8)), to_cell(2, fixed(6, 6)),
        ]
        after = [
            to_cell(2, fixed(21, 31)), to_area(2, fixed(23, 30), fixed(20, 33)), LOST, LOST, told[4], told[5],
        ]
        for letter, reference in zip("ZYXWVU", told):
            self.done(define(letter, reference))
        self.done(move(0, 5, 8, 5, 8, 1, 20, 30))
        self.assert_names(list(zip("ZYXWVU", after)))


if __name__ == "__main__":
    unittest.main()
