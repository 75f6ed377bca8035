"""Promise 6: look, cells, sheets."""

import unittest

from tests.helper import (
    AREAS_THAT_ARE_NONE, BookCase, COLUMNS, LOST, MOST, NEW, ROWS, SHEETS, cells, clear, delete, fill, fixed, formula,
    gone, insert, look, move, name, number, off, perform, put, sheet, text, to_area, to_cell,
)


class LookRefusals(BookCase):
    def test_places(self):
        for row, column in ((4096, 0), (0, 256), (4096, 256), (MOST, 0), (0, MOST), (MOST, MOST)):
            self.assert_refused(-1, look(0, row, column))
            self.assert_refused(-1, look(3, row, column))

    def test_sheets(self):
        for at_sheet in (3, 63, 64, MOST):
            self.assert_refused(-2, look(at_sheet, 0, 0))
        self.done(put(1, 0, 0, number(1)), gone(1))
        self.assert_refused(-2, look(1, 0, 0))


class Look(BookCase):
    def assert_look(self, at_sheet, row, column, answer):
        self.assertEqual(perform(self.book, [look(at_sheet, row, column)]), [answer])

    def test_nothing(self):
        for row, column in ((0, 0), (4095, 255), (7, 9)):
            self.assert_look(0, row, column, [0])

    def test_each_kind_of_content(self):
        for content in (
            number(0), number(10 ** 36 - 1), number(1 - 10 ** 36), text(b""), text("\u20ac\U0001f600".encode()),
            [0, 3, 0], [0, 3, 1], [0, 4, 8], formula(0, 1, -5), formula(0, 2, 0), formula(*to_cell(0, off(-1, 2))),
            formula(*to_area(3, fixed(4095, 255), [0, -5, 1, 0])), formula(3, *name("A_1.")),
            formula(4, *name("T"), 2, 0xC3, 0xA9, 9), formula(5, 22, 6, 12, 0, 1, 1, 0, 3, 1),
            formula(7, *name("F"), 0), formula(7, *name("F"), 2, 0, 1, 1, 5, 20, 0, 1, 2),
            formula(8, 2, 2, 1, 5, 2, 1, 65, 3, 1, 4, 8),
        ):
            self.done(put(1, 7, 8, content))
            self.assert_look(1, 7, 8, [1] + content)
        for at_sheet, row, column in ((0, 7, 8), (2, 7, 8), (1, 8, 7), (1, 7, 9), (1, 6, 8)):
            self.assert_look(at_sheet, row, column, [0])

    def test_the_edges_of_a_sheet(self):
        self.done(put(0, 0, 0, number(1)), put(0, 4095, 255, number(2)))
        self.assert_look(0, 0, 0, [1, 0, 1, 1])
        self.assert_look(0, 4095, 255, [1, 0, 1, 2])

    def test_behind_each_change(self):
        self.done(put(0, 5, 5, formula(6, 1, *to_cell(0, off(3, 0)), *to_area(2, fixed(9, 9), off(0, 0)))))
        self.done(insert(0, ROWS, 6, 4, 0, 255))
        self.assert_look(0, 5, 5, [1, 1, 6, 1] + to_cell(0, off(7, 0)) + to_area(2, fixed(9, 9), off(0, 0)))
        self.done(insert(0, COLUMNS, 0, 1, 0, 4095))
        self.assert_look(0, 5, 5, [0])
        self.assert_look(0, 5, 6, [1, 1, 6, 1] + to_cell(0, off(7, 0)) + to_area(2, fixed(9, 9), [0, 0, 0, -1]))
        self.done(delete(0, ROWS, 0, 5, 0, 255))
        self.assert_look(0, 0, 6, [1, 1, 6, 1] + to_cell(0, off(7, 0)) + to_area(2, fixed(9, 9), [0, 5, 0, -1]))
        self.done(move(0, 0, 0, 6, 6, 1, 20, 20))
        self.assert_look(0, 0, 6, [0])
        self.assert_look(1, 20, 20, [1, 1, 6, 1] + to_cell(1, off(-13, -14)) + to_area(2, fixed(9, 9), off(-15, -15)))
        self.done(fill(1, 20, 20, 20, 20, 2, 14, 14, 20, 20))
        self.assert_look(2, 14, 20, [1, 1, 6, 1] + to_cell(1, off(-13, -14)) + LOST)
        self.done(gone(0))
        self.assert_look(2, 14, 20, [1, 1, 6, 1] + LOST + LOST)
        self.assert_look(1, 20, 20, [1, 1, 6, 1] + LOST + to_area(2, fixed(9, 9), off(-15, -15)))
        self.done(clear(1, 20, 20, 20, 20))
        self.assert_look(1, 20, 20, [0])
        self.done(put(2, 14, 20, [0, 0]))
        self.assert_look(2, 14, 20, [0])

    def test_it_changes_nothing(self):
        self.done(put(0, 5, 5, formula(*to_cell(0, off(3, 0)))))
        self.assertEqual(perform(self.book, [look(0, 5, 5)] * 3), [[1, 1] + to_cell(0, off(3, 0))] * 3)


class CellsRefusals(BookCase):
    def test_areas(self):
        for area in AREAS_THAT_ARE_NONE:
            self.assert_refused(-1, cells(0, *area))
            self.assert_refused(-1, cells(3, *area))

    def test_sheets(self):
        for at_sheet in (3, 63, 64, MOST):
            self.assert_refused(-2, cells(at_sheet, 0, 0, 0, 0))
        self.done(gone(1))
        self.assert_refused(-2, cells(1, 0, 4095, 0, 255))


class Cells(BookCase):
    def assert_cells(self, told, answer):
        self.assertEqual(perform(self.book, [cells(*told)]), [answer])

    def test_none(self):
        self.done(put(1, 5, 5, number(1)))
        self.assert_cells((0, 0, 4095, 0, 255), [0])
        self.assert_cells((1, 0, 4, 0, 255), [0])

    def test_by_rows_then_columns(self):
        for row, column in ((9, 2), (3, 200), (3, 7), (100, 0), (9, 1), (0, 255), (3, 30)):
            self.done(put(0, row, column, number(1)))
        self.assert_cells((0, 0, 4095, 0, 255), [7, 0, 255, 3, 7, 3, 30, 3, 200, 9, 1, 9, 2, 100, 0])

    def test_those_of_the_area_alone(self):
        spots = [(row, column) for row in range(3, 8) for column in range(10, 15)]
        self.done(*[put(0, row, column, number(1)) for row, column in reversed(spots)])
        self.assert_cells((0, 4, 5, 11, 13), [6, 4, 11, 4, 12, 4, 13, 5, 11, 5, 12, 5, 13])
        self.assert_cells((0, 7, 4095, 14, 255), [1, 7, 14])
        self.assert_cells((0, 0, 3, 0, 10), [1, 3, 10])
        self.assert_cells((0, 8, 4095, 0, 255), [0])
        self.assert_cells((0, 0, 4095, 15, 255), [0])
        self.assert_cells((0, 5, 5, 12, 12), [1, 5, 12])

    def test_the_edges_of_a_sheet(self):
        self.done(put(0, 4095, 255, number(1)), put(0, 0, 0, number(1)))
        self.assert_cells((0, 0, 4095, 0, 255), [2, 0, 0, 4095, 255])
        self.assert_cells((0, 4095, 4095, 255, 255), [1, 4095, 255])

    def test_the_first_1024_while_all_are_counted(self):
        self.done(put(0, 7, 3, number(1)), fill(0, 7, 7, 3, 3, 0, 7, 38, 3, 34))
        every = [place for row in range(7, 39) for column in range(3, 35) for place in (row, column)]
        self.assert_cells((0, 0, 4095, 0, 255), [1024] + every)
        self.done(put(0, 50, 0, number(1)))
        self.assert_cells((0, 0, 4095, 0, 255), [1025] + every)
        self.done(put(0, 0, 0, number(1)))
        self.assert_cells((0, 0, 4095, 0, 255), [1026, 0, 0] + every[:-2])
        self.assert_cells((0, 1, 49, 0, 255), [1024] + every)
        self.done(fill(0, 0, 0, 0, 0, 0, 0, 62, 0, 255))
        first = [place for row in range(4) for column in range(256) for place in (row, column)]
        self.assert_cells((0, 0, 4095, 0, 255), [63 * 256] + first)

    def test_behind_changes(self):
        self.done(put(0, 5, 5, number(1)), put(0, 2, 2, number(2)), put(0, 5, 1, formula(*to_cell(0, off(0, 0)))))
        self.done(insert(0, ROWS, 0, 3, 2, 2))
        self.assert_cells((0, 0, 4095, 0, 255), [3, 5, 1, 5, 2, 5, 5])
        self.done(delete(0, COLUMNS, 0, 2, 5, 5))
        self.assert_cells((0, 0, 4095, 0, 255), [2, 5, 0, 5, 3])
        self.done(move(0, 5, 5, 3, 3, 0, 1, 200), put(0, 5, 0, [0, 0]))
        self.assert_cells((0, 0, 4095, 0, 255), [1, 1, 200])
        self.done(fill(0, 1, 1, 199, 200, 0, 1, 1, 0, 3))
        self.assert_cells((0, 0, 4095, 0, 255), [3, 1, 1, 1, 3, 1, 200])
        self.done(clear(0, 1, 1, 0, 2))
        self.assert_cells((0, 0, 4095, 0, 255), [2, 1, 3, 1, 200])
        self.done(gone(0), sheet("A"))
        self.assert_cells((0, 0, 4095, 0, 255), [0])


class Sheets(BookCase):
    def assert_sheets(self, *told):
        numbers = [len(told)]
        for at_sheet, title in told:
            numbers += [at_sheet, len(title.encode())] + list(title.encode())
        self.assertEqual(perform(self.book, [SHEETS]), [numbers])

    def test_none(self):
        self.assertEqual(perform(self.book, [NEW, SHEETS]), [[0], [0]])

    def test_as_they_are_told(self):
        self.assertEqual(perform(self.book, [SHEETS]), [[3, 0, 1, 65, 1, 1, 66, 2, 1, 67]])

    def test_titles(self):
        self.done(sheet("\u20acx"), sheet("y" * 64))
        self.assert_sheets((0, "A"), (1, "B"), (2, "C"), (3, "\u20acx"), (4, "y" * 64))

    def test_by_their_numbers_before_and_behind_gone(self):
        self.done(sheet("D"), gone(1))
        self.assert_sheets((0, "A"), (2, "C"), (3, "D"))
        self.done(gone(0))
        self.assert_sheets((2, "C"), (3, "D"))
        self.done(sheet("Z"), sheet("B"), sheet("E"))
        self.assert_sheets((0, "Z"), (1, "B"), (2, "C"), (3, "D"), (4, "E"))
        self.done(gone(4), gone(3), gone(2), gone(1), gone(0))
        self.assert_sheets()

    def test_64(self):
        titles = ["A", "B", "C"] + [f"sheet {at}" for at in range(3, 64)]
        self.done(*[sheet(title) for title in titles[3:]])
        self.assert_sheets(*enumerate(titles))
        self.assertEqual(perform(self.book, [sheet("one more"), sheet("A"), sheet("")]), [[-5], [-4], [-3]])
        self.assert_sheets(*enumerate(titles))


if __name__ == "__main__":
    unittest.main()
