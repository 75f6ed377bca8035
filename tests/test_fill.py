"""Promise 4: fill."""

import unittest

from cellsheets.areas import cell_at
from cellsheets.contents import Content
from cellsheets.references import content_copied
from tests.helper import (
    AREAS_THAT_ARE_NONE, BookCase, LOST, MOST, all_of, clear, define, fill, fixed, formula, gone, insert, look, move,
    name, number, off, perform, put, standing, text, to_area, to_cell,
)

GOOD = (0, 0, 0, 0)


class Refusals(BookCase):
    def setUp(self):
        super().setUp()
        self.done(
            put(0, 0, 0, number(1)), put(1, 0, 0, formula(*to_cell(1, off(0, 0)))),
            define("N", to_cell(1, fixed(0, 0))),
        )

    def test_areas(self):
        for area in AREAS_THAT_ARE_NONE:
            self.assert_refused(-1, fill(0, *area, 1, *GOOD))
            self.assert_refused(-1, fill(0, *GOOD, 1, *area))
            self.assert_refused(-1, fill(0, *area, 1, *area))

    def test_the_edges_of_a_sheet(self):
        self.done(fill(2, 0, 4095, 0, 255, 2, 0, 4095, 0, 255), fill(2, 4095, 4095, 255, 255, 2, 4095, 4095, 255, 255))

    def test_sheets(self):
        for at_sheet in (3, 63, 64, MOST):
            self.assert_refused(-2, fill(at_sheet, *GOOD, 0, *GOOD))
            self.assert_refused(-2, fill(0, *GOOD, at_sheet, *GOOD))
            self.assert_refused(-2, fill(at_sheet, *GOOD, at_sheet, *GOOD))
        self.done(gone(1))
        self.assert_refused(-2, fill(1, *GOOD, 0, *GOOD))
        self.assert_refused(-2, fill(0, *GOOD, 1, *GOOD))

    def test_order(self):
        for area in AREAS_THAT_ARE_NONE:
            self.assert_refused(-1, fill(3, *area, 3, *GOOD))
            self.assert_refused(-1, fill(3, *GOOD, 3, *area))
            self.assert_refused(-1, fill(3, *GOOD, 0, *area))
            self.assert_refused(-1, fill(0, *area, 3, *GOOD))
        self.assert_refused(-2, fill(0, *GOOD, 3, 0, 4095, 0, 255))
        self.assert_refused(-5, fill(0, *GOOD, 2, 0, 4095, 0, 255))


class Copies(BookCase):
    """Cells of sheet 0 have numbers that tell where they stood."""

    def put_block(self, rows, columns, but=()):
        for row in rows:
            for column in columns:
                if (row, column) not in but:
                    self.done(put(0, row, column, number(1000 * row + column)))

    def check(self, source, to_sheet, target):
        """What stands then is just what the promise says of each cell of the target, and what stood elsewhere."""
        before = standing(self.book)
        expected = {
            spot: content for spot, content in before.items()
            if spot[0] != to_sheet or not (target[0] <= spot[1] <= target[1] and target[2] <= spot[2] <= target[3])
        }
        for i in range(target[1] - target[0] + 1):
            for j in range(target[3] - target[2] + 1):
                row = source[0] + i % (source[1] - source[0] + 1)
                column = source[2] + j % (source[3] - source[2] + 1)
                if (0, row, column) in before:
                    expected[(to_sheet, target[0] + i, target[2] + j)] = before[(0, row, column)]
        self.assertEqual(perform(self.book, [fill(0, *source, to_sheet, *target)]), [[0]])
        self.assert_all(expected)
        return expected

    def test_one_cell(self):
        self.done(put(0, 3, 4, number(7)), fill(0, 3, 3, 4, 4, 0, 9, 9, 8, 8))
        self.assert_all({(0, 3, 4): number(7), (0, 9, 8): number(7)})

    def test_one_cell_over_and_over(self):
        self.done(put(0, 3, 4, number(7)), fill(0, 3, 3, 4, 4, 0, 10, 12, 20, 21))
        expected = {(0, row, column): number(7) for row in (10, 11, 12) for column in (20, 21)}
        expected[(0, 3, 4)] = number(7)
        self.assert_all(expected)

    def test_values_of_all_kinds(self):
        kinds = [number(-5), text("a\u00e9".encode()), text(b""), [0, 3, 0], [0, 4, 8]]
        self.done(*[put(0, 0, at, content) for at, content in enumerate(kinds)], fill(0, 0, 0, 0, 4, 1, 7, 7, 0, 4))
        for at, content in enumerate(kinds):
            self.assert_stands(1, 7, at, content)

    def test_over_and_over_with_a_rest(self):
        self.put_block(range(5, 7), range(3, 6), [(6, 4)])
        expected = self.check((5, 6, 3, 5), 0, (20, 24, 10, 16))
        self.assertEqual(expected[(0, 20, 10)], number(5003))
        self.assertEqual(expected[(0, 21, 10)], number(6003))
        self.assertEqual(expected[(0, 22, 10)], number(5003))
        self.assertEqual(expected[(0, 20, 11)], number(5004))
        self.assertEqual(expected[(0, 20, 12)], number(5005))
        self.assertEqual(expected[(0, 20, 13)], number(5003))
        self.assertEqual(expected[(0, 24, 16)], number(5003))
        self.assertNotIn((0, 21, 11), expected)
        self.assertNotIn((0, 25, 10), expected)
        self.assertNotIn((0, 20, 17), expected)

    def test_a_first_area_larger_than_the_second(self):
        self.put_block(range(5, 10), range(3, 9))
        for target in ((20, 20, 10, 10), (20, 22, 10, 11), (20, 24, 10, 11), (20, 21, 10, 15), (20, 20, 10, 17)):
            self.check((5, 9, 3, 8), 0, target)
            self.done(clear(0, 20, 30, 0, 255))

    def test_larger_in_one_way_and_smaller_in_the_other(self):
        self.put_block(range(5, 10), range(3, 5))
        self.check((5, 9, 3, 4), 0, (20, 22, 10, 16))
        self.check((5, 6, 3, 4), 0, (30, 37, 10, 10))

    def test_what_stood_there_is_gone_where_the_first_has_nothing(self):
        self.put_block(range(20, 24), range(10, 14))
        self.done(put(0, 0, 0, number(1)))
        self.check((0, 1, 0, 1), 0, (20, 22, 10, 12))
        self.assert_stands(0, 21, 10, None)
        self.assert_stands(0, 23, 10, number(23010))
        self.assert_stands(0, 20, 13, number(20013))

    def test_nothing_over_something(self):
        self.put_block(range(4), range(4))
        self.check((100, 100, 100, 100), 0, (0, 2, 0, 2))
        self.check((100, 100, 100, 100), 0, (0, 4095, 0, 255))
        self.assert_all({})

    def test_to_another_sheet(self):
        self.put_block(range(2, 5), range(2, 5), [(3, 3)])
        self.done(put(1, 10, 10, number(-1)), put(1, 11, 11, number(-2)), put(1, 9, 9, number(-3)))
        self.done(put(2, 10, 10, number(-4)))
        self.check((2, 4, 2, 4), 1, (10, 14, 10, 13))
        self.check((2, 4, 2, 4), 1, (2, 4, 2, 4))

    def test_areas_that_overlap(self):
        for target in (
            (3, 5, 2, 4), (1, 3, 2, 4), (2, 4, 3, 5), (2, 4, 1, 3), (3, 5, 3, 5), (1, 3, 1, 3), (0, 9, 0, 9),
            (2, 9, 2, 9), (3, 3, 3, 3), (2, 4, 2, 4), (3, 9, 2, 4), (0, 3, 0, 3), (2, 4, 2, 9), (4, 4, 0, 9),
        ):
            self.setUp()
            self.put_block(range(8), range(8), [(2, 3), (4, 4), (0, 0), (6, 5)])
            self.check((2, 4, 2, 4), 0, target)

    def test_onto_itself_nothing_changes(self):
        self.put_block(range(4), range(4), [(1, 1)])
        self.done(put(0, 0, 0, formula(6, 1, *to_cell(0, off(4095, 255)), *to_area(0, fixed(2, 2), off(0, 0)))))
        before = all_of(self.book)
        self.done(fill(0, 0, 3, 0, 3, 0, 0, 3, 0, 3))
        self.assertEqual(all_of(self.book), before)

    def test_to_the_edges_of_a_sheet(self):
        self.put_block(range(2), range(2))
        self.check((0, 1, 0, 1), 0, (4093, 4095, 253, 255))

    def test_what_is_copied_is_of_its_own(self):
        self.done(put(0, 0, 0, number(1)), fill(0, 0, 0, 0, 0, 0, 0, 1, 0, 0), put(0, 0, 0, number(2)))
        self.assert_all({(0, 0, 0): number(2), (0, 1, 0): number(1)})


class Formulas(BookCase):
    def filled(self, content, row, column, to_sheet, to_row, to_column):
        target = (to_row, to_row, to_column, to_column)
        self.done(put(0, row, column, content), fill(0, row, row, column, column, to_sheet, *target))

    def check(self, content, expected, to_sheet=0):
        """From row 50, column 50, to row 90, column 30."""
        self.filled(content, 50, 50, to_sheet, 90, 30)
        self.assert_stands(0, 50, 50, content)
        self.assert_stands(to_sheet, 90, 30, expected)

    def test_they_are_the_same(self):
        for told in (
            to_cell(0, off(-3, 4)), to_cell(0, fixed(3, 4)), to_cell(0, [0, -3, 1, 4]), to_cell(0, [1, 3, 0, 4]),
            to_cell(1, off(-3, 4)), to_cell(2, off(-3, 4)), to_cell(3, fixed(0, 0)), [3] + name("N"),
            to_area(0, off(5, -5), fixed(1, 1)), to_area(0, fixed(9, 9), fixed(1, 1)),
            to_area(2, off(1, 1), off(-1, -1)), [4] + name("T") + [1, 65, 9],
            [5, 20, 6, 12] + to_cell(0, off(1, 1)) + to_cell(1, off(0, 0)),
            [7] + name("F") + [2] + to_cell(0, off(1, 1)) + [0, 1, 5], [8, 1, 2, 1, 1, 3, 0], LOST,
        ):
            for to_sheet in (0, 1, 2):
                self.check(formula(*told), formula(*told), to_sheet)

    def test_their_own_sheet_is_the_one_that_they_come_to(self):
        self.check(formula(6, 1, *to_cell(0, fixed(5, 5)), *to_cell(1, fixed(5, 5))),
                   formula(6, 1, *to_cell(0, fixed(5, 5)), *to_cell(1, fixed(5, 5))), 1)
        self.done(insert(1, 0, 0, 2, 0, 255))
        self.assert_stands(1, 92, 30, formula(6, 1, *to_cell(0, fixed(7, 5)), *to_cell(1, fixed(5, 5))))
        self.assert_stands(0, 50, 50, formula(6, 1, *to_cell(0, fixed(5, 5)), *to_cell(1, fixed(5, 5))))

    def check_edge(self, to_row, to_column, spot, leads):
        """Of a formula at row 2000, column 100; what holds of a cell holds of an area with that corner."""
        for told in (
            to_cell(0, spot), to_cell(2, spot), to_area(0, spot, fixed(7, 7)), to_area(3, fixed(7, 7), spot),
            to_area(0, spot, off(0, 0)), to_area(0, off(0, 0), spot),
        ):
            for to_sheet in (0, 1):
                self.setUp()
                self.filled(formula(*told), 2000, 100, to_sheet, to_row, to_column)
                self.assert_stands(0, 2000, 100, formula(*told))
                self.assert_stands(to_sheet, to_row, to_column, formula(*(told if leads else LOST)))

    def test_a_reference_that_leads_nowhere(self):
        for rows, columns, to_row, to_column, leads in (
            (-5, 0, 5, 100, True), (-5, 0, 4, 100, False), (-5, 0, 0, 100, False),
            (5, 0, 4090, 100, True), (5, 0, 4091, 100, False), (5, 0, 4095, 100, False),
            (0, -5, 2000, 5, True), (0, -5, 2000, 4, False), (0, -5, 2000, 0, False),
            (0, 5, 2000, 250, True), (0, 5, 2000, 251, False), (0, 5, 2000, 255, False),
            (-5, 5, 5, 250, True), (-5, 5, 4, 251, False),
        ):
            self.check_edge(to_row, to_column, off(rows, columns), leads)

    def test_fixed_coordinates_lead_where_they_led(self):
        self.check_edge(0, 0, fixed(4095, 255), True)
        self.check_edge(4095, 255, fixed(0, 0), True)
        self.check_edge(0, 100, [1, 0, 0, -100], True)
        self.check_edge(0, 99, [1, 0, 0, -100], False)
        self.check_edge(4095, 155, [0, 0, 0, 100], True)
        self.check_edge(4095, 255, [0, 0, 1, 255], True)
        self.check_edge(4095, 255, [0, 1, 1, 255], False)

    def test_of_several_references_each_that_leads_nowhere(self):
        self.filled(
            formula(7, *name("F"), 4, *to_cell(0, off(-1, 0)), 5, 20, *to_cell(0, off(0, -1)), *to_cell(0, off(1, 1)),
                    *to_area(0, off(0, 0), off(-1, -1))),
            5, 5, 0, 0, 5)
        self.assert_formula(0, 0, 5, [7] + name("F") + [4] + LOST + [5, 20] + to_cell(0, off(0, -1))
                            + to_cell(0, off(1, 1)) + LOST)

    def test_of_several_copies_each_that_leads_nowhere(self):
        told = to_cell(0, off(-2, 0))
        self.done(put(0, 9, 0, formula(*told)), fill(0, 9, 9, 0, 0, 0, 0, 4, 0, 1))
        for column in (0, 1):
            for row in range(5):
                self.assert_formula(0, row, column, LOST if row < 2 else told)
        self.assert_formula(0, 9, 0, told)

    def test_numbers_that_look_like_references_stay(self):
        alike = formula(8, 2, 2, 1, 1, 1, 2, 2, 2, 1, 2, 3, 1)
        self.done(put(0, 9, 9, [0, 1, 2]), put(0, 9, 8, alike), put(0, 9, 7, [0, 2, 6, 1, 0, 0, 127, 0, 5]))
        self.done(fill(0, 9, 9, 7, 9, 0, 4095, 4095, 253, 255))
        self.assert_stands(0, 4095, 255, [0, 1, 2])
        self.assert_stands(0, 4095, 254, alike)
        self.assert_stands(0, 4095, 253, [0, 2, 6, 1, 0, 0, 127, 0, 5])

    def test_an_error_stays_one_where_it_would_lead_somewhere(self):
        self.done(put(0, 5, 5, formula(*to_cell(0, off(-1, 0)))), fill(0, 5, 5, 5, 5, 0, 0, 0, 0, 0))
        self.done(fill(0, 0, 0, 0, 0, 0, 5, 5, 5, 5))
        self.assert_formula(0, 5, 5, LOST)

    def test_a_sheet_that_is_not_there(self):
        told = Content(1, [(6, 1), (1, 2, 1, 5, 1, 5), (2, 3, 1, 5, 1, 5, 0, 0, 0, 0)])
        copy = content_copied(told, cell_at(0, 7, 7), {0: [65], 2: [67]})
        self.assertEqual(copy.as_numbers(), formula(6, 1, *LOST, *to_area(3, fixed(5, 5), off(0, 0))))
        copy = content_copied(told, cell_at(0, 7, 7), {0: [65], 1: [66]})
        self.assertEqual(copy.as_numbers(), formula(6, 1, *to_cell(2, fixed(5, 5)), *LOST))
        self.assertEqual(told.parts, [(6, 1), (1, 2, 1, 5, 1, 5), (2, 3, 1, 5, 1, 5, 0, 0, 0, 0)])

    def test_references_to_where_it_comes_to_stay(self):
        reference = to_area(1, fixed(5, 5), fixed(9, 9))
        own = formula(6, 1, *to_cell(1, fixed(7, 7)), *reference)
        self.done(put(0, 0, 0, number(1)), put(1, 0, 0, own), define("N", reference))
        self.done(fill(0, 0, 0, 0, 0, 0, 0, 20, 0, 20), fill(0, 100, 100, 100, 100, 0, 0, 20, 0, 20))
        self.assert_all({(1, 0, 0): own})
        self.assert_names([("N", reference)])

    def test_copies_go_their_own_ways_then(self):
        told = formula(*to_cell(0, off(1, 0)))
        self.done(put(0, 0, 0, told), fill(0, 0, 0, 0, 0, 0, 0, 3, 0, 0), insert(0, 0, 2, 5, 0, 255))
        self.assert_all({
            (0, 0, 0): told, (0, 1, 0): formula(*to_cell(0, off(6, 0))), (0, 7, 0): told, (0, 8, 0): told,
        })
        self.done(move(0, 9, 9, 0, 0, 1, 3, 3))
        self.assert_formula(0, 8, 0, to_cell(2, [0, -5, 0, 3]))


class Full(BookCase):
    def test_16384_cells(self):
        self.done(put(0, 0, 0, number(1)))
        self.assert_refused(-5, fill(0, *GOOD, 0, 0, 64, 0, 255))
        self.assert_refused(-5, fill(0, *GOOD, 0, 0, 4095, 0, 255))
        self.assert_refused(-5, fill(0, *GOOD, 1, 0, 63, 0, 255))
        self.assert_refused(-5, fill(0, *GOOD, 0, 1, 64, 0, 255))
        self.done(fill(0, *GOOD, 0, 0, 63, 0, 255))
        self.assertEqual(len(standing(self.book)), 16384)
        self.assert_refused(-5, put(0, 64, 0, number(1)))
        self.assert_refused(-5, fill(0, *GOOD, 1, *GOOD))
        self.assert_refused(-5, fill(0, *GOOD, 0, 64, 64, 0, 0))
        self.assert_refused(-5, fill(0, 0, 0, 0, 1, 0, 63, 64, 0, 0))

    def test_what_it_takes_the_place_of_does_not_count(self):
        self.done(put(0, 0, 0, number(1)), fill(0, *GOOD, 0, 0, 63, 0, 255), put(0, 0, 0, number(2)))
        self.done(fill(0, 0, 0, 0, 0, 0, 30, 63, 0, 255), fill(0, 0, 63, 0, 255, 0, 0, 63, 0, 255))
        self.assert_stands(0, 63, 255, number(2))
        self.assert_stands(0, 29, 255, number(1))
        self.assert_refused(-5, fill(0, *GOOD, 0, 30, 64, 0, 255))
        self.done(fill(0, 100, 100, 0, 0, 0, 63, 63, 255, 255), fill(0, *GOOD, 2, *GOOD))
        self.assert_refused(-5, fill(0, *GOOD, 0, 63, 63, 255, 255))

    def test_nothing_may_be_filled_in_where_it_is_full(self):
        self.done(put(0, 0, 0, number(1)), fill(0, *GOOD, 0, 0, 63, 0, 255))
        before = all_of(self.book)
        self.done(fill(1, *GOOD, 2, 0, 4095, 0, 255))
        self.assertEqual(all_of(self.book), before)

    def test_only_cells_that_have_something_count(self):
        # Of every second column alone: 4 columns of 4096 rows, the first of these cells among them.
        self.done(put(0, 0, 0, number(1)))
        self.assert_refused(-5, fill(0, 0, 0, 0, 1, 0, 0, 4095, 0, 8))
        self.assert_refused(-5, fill(0, 0, 0, 0, 1, 1, 0, 4095, 0, 7))
        self.done(fill(0, 0, 0, 0, 1, 0, 0, 4095, 0, 7))
        self.assertEqual(perform(self.book, [look(0, 4095, 6), look(0, 4095, 7)]), [[1, 0, 1, 1], [0]])
        self.assertEqual(perform(self.book, [clear(0, 0, 4095, 0, 255)]), [[16384]])

    def test_cells_of_all_sheets_count(self):
        self.done(put(0, 0, 0, number(1)), put(2, 9, 9, number(1)))
        self.assert_refused(-5, fill(0, *GOOD, 1, 0, 63, 0, 255))
        self.assert_refused(-5, fill(0, *GOOD, 0, 0, 63, 0, 255))
        self.done(clear(2, 0, 4095, 0, 255), fill(0, *GOOD, 0, 0, 63, 0, 255))


if __name__ == "__main__":
    unittest.main()
