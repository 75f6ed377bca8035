"""Promise 3: insert and delete."""

import unittest

from tests.helper import (
    BookCase, COLUMNS, LOST, ROWS, define, delete, fixed, formula, gone, insert, name, number, off, perform, put,
    to_area, to_cell,
)

LAST = (4095, 255)


def across(way, place, other):
    """Row and column of what is at a place along the way."""
    return (place, other) if way == ROWS else (other, place)


class ShiftCase(BookCase):
    """Each test goes both ways: places are rows or columns, the others columns or rows."""

    def each_way(self):
        for way in (ROWS, COLUMNS):
            with self.subTest(way=way):
                self.setUp()
                yield way, LAST[way], LAST[1 - way]

    def put_at(self, way, at_sheet, place, other, content):
        row, column = across(way, place, other)
        self.done(put(at_sheet, row, column, content))

    def assert_at(self, way, at_sheet, place, other, content):
        row, column = across(way, place, other)
        self.assert_stands(at_sheet, row, column, content)

    def spot(self, way, place, other, kind=1):
        row, column = across(way, place, other)
        return [kind, row, kind, column]


class Refusals(ShiftCase):
    def check_both(self, refusal, *told):
        self.assert_refused(refusal, insert(*told))
        self.assert_refused(refusal, delete(*told))

    def check_done(self, *told):
        self.assertEqual(perform(self.book, [insert(*told), delete(*told)]), [[0], [0]])

    def test_places(self):
        for way, last, last_other in self.each_way():
            self.check_done(0, way, last, 1, 0, last_other)
            self.check_done(0, way, 0, last + 1, 0, last_other)
            self.check_done(0, way, 1, last, 0, last_other)
            self.check_both(-1, 0, way, last + 1, 1, 0, last_other)
            self.check_both(-1, 0, way, last + 1, 0, 0, last_other)
            self.check_both(-1, 0, way, 0, last + 2, 0, last_other)
            self.check_both(-1, 0, way, 1, last + 1, 0, last_other)
            self.check_both(-1, 0, way, last, 2, 0, last_other)
            self.check_both(-1, 0, way, 0, 0, 0, last_other)
            self.check_both(-1, 0, way, 4294967295, 4294967295, 0, last_other)

    def test_others(self):
        for way, last, last_other in self.each_way():
            self.check_done(0, way, 0, 1, 7, 7)
            self.check_done(0, way, 0, 1, last_other, last_other)
            self.check_both(-1, 0, way, 0, 1, 8, 7)
            self.check_both(-1, 0, way, 0, 1, 0, last_other + 1)
            self.check_both(-1, 0, way, 0, 1, last_other + 1, last_other + 1)
            self.check_both(-1, 0, way, 0, 1, 4294967295, 4294967295)

    def test_sheets(self):
        for way, last, last_other in self.each_way():
            self.check_both(-2, 3, way, 0, 1, 0, last_other)
            self.check_both(-2, 64, way, 0, 1, 0, last_other)
            self.done(gone(1))
            self.check_both(-2, 1, way, 0, 1, 0, last_other)

    def test_order(self):
        for way, last, last_other in self.each_way():
            self.check_both(-1, 3, way, 0, 0, 0, last_other)
            self.check_both(-1, 3, way, last + 1, 1, 0, last_other)
            self.check_both(-1, 3, way, 0, 1, 1, 0)
            self.put_at(way, 0, last, 0, number(1))
            self.assert_refused(-1, insert(0, way, 0, 0, 0, last_other))
            self.assert_refused(-2, insert(3, way, 0, 1, 0, last_other))
            self.assert_refused(-5, insert(0, way, 0, 1, 0, last_other))

    def test_something_would_go_beyond(self):
        for way, last, last_other in self.each_way():
            self.put_at(way, 0, last - 3, 5, formula(*to_cell(0, off(0, 0))))
            self.put_at(way, 0, last - 4, 9, number(2))
            self.put_at(way, 1, 0, 0, formula(*to_cell(1, self.spot(way, 9, 9))))
            self.assert_refused(-5, insert(0, way, 0, 4, 0, last_other))
            self.assert_refused(-5, insert(0, way, last - 3, 4, 5, 5))
            self.assert_refused(-5, insert(0, way, 0, last + 1, 9, 9))
            self.assertEqual(perform(self.book, [
                insert(0, way, last - 2, 3, 0, last_other),
                insert(0, way, 0, 4, 6, last_other),
                insert(0, way, 0, 3, 5, 5),
                insert(1, way, 0, 4, 0, last_other),
            ]), [[0], [0], [0], [0]])
            self.assert_at(way, 0, last, 5, formula(*to_cell(0, off(0, 0))))
            self.assert_at(way, 0, last, 9, number(2))

    def test_nothing_goes_beyond_by_deleting(self):
        for way, last, last_other in self.each_way():
            self.put_at(way, 0, last, 0, number(1))
            self.done(delete(0, way, 0, last, 0, last_other))
            self.assert_all({(0, 0, 0): number(1)})


class Cells(ShiftCase):
    def put_row(self, way):
        """Contents at the places 3 to 8 for the others 2 to 5, on two sheets."""
        for at_sheet in (0, 1):
            for place in range(3, 9):
                for other in range(2, 6):
                    self.put_at(way, at_sheet, place, other, number(1000 * at_sheet + 10 * place + other))

    def assert_rows(self, way, goes):
        expected = {}
        for at_sheet in (0, 1):
            for place in range(3, 9):
                for other in range(2, 6):
                    after = goes(place, other) if at_sheet == 0 else place
                    if after is not None:
                        expected[(at_sheet,) + across(way, after, other)] = number(1000 * at_sheet + 10 * place + other)
        self.assert_all(expected)

    def test_put_in_for_all_others(self):
        for way, last, last_other in self.each_way():
            self.put_row(way)
            self.done(insert(0, way, 5, 4, 0, last_other))
            self.assert_rows(way, lambda place, other: place if place < 5 else place + 4)

    def test_put_in_for_some_others(self):
        for way, last, last_other in self.each_way():
            self.put_row(way)
            self.done(insert(0, way, 5, 2, 3, 4))
            self.assert_rows(way, lambda place, other: place + 2 if place >= 5 and other in (3, 4) else place)

    def test_taken_out_for_all_others(self):
        for way, last, last_other in self.each_way():
            self.put_row(way)
            self.done(delete(0, way, 5, 2, 0, last_other))
            self.assert_rows(way, lambda place, other: place if place < 5 else None if place < 7 else place - 2)

    def test_taken_out_for_some_others(self):
        for way, last, last_other in self.each_way():
            self.put_row(way)
            self.done(delete(0, way, 4, 3, 4, 9))
            self.assert_rows(
                way,
                lambda place, other: place if place < 4 or other < 4 else None if place < 7 else place - 3,
            )

    def test_all_taken_out(self):
        for way, last, last_other in self.each_way():
            self.put_row(way)
            self.done(delete(0, way, 0, last + 1, 0, last_other))
            self.assert_rows(way, lambda place, other: None)

    def test_a_formula_that_is_taken_out_is_gone(self):
        for way, last, last_other in self.each_way():
            self.put_at(way, 0, 5, 5, formula(*to_cell(0, fixed(0, 0))))
            self.done(delete(0, way, 5, 1, 5, 5))
            self.assert_all({})


class CellReferences(ShiftCase):
    """What a reference to a cell becomes."""

    def check(self, call, before, after, from_sheet=0, told_sheet=0):
        """The cell at the place and other before is at those of after then, or gone; so says a formula at the place
        200, other 200, which no call of these touches."""
        for kind in (0, 1):
            with self.subTest(call=call, before=before, kind=kind, from_sheet=from_sheet):
                self.setUp()
                way = call[2]
                own = (0, 0) if kind == 1 else across(way, 200, 200)
                spots = []
                for place, other in (before, after or before):
                    row, column = across(way, place, other)
                    spots.append([kind, row - own[0], kind, column - own[1]])
                self.put_at(way, from_sheet, 200, 200, formula(*to_cell(told_sheet, spots[0])))
                self.done(call)
                expected = LOST if after is None else to_cell(told_sheet, spots[1])
                self.assert_at(way, from_sheet, 200, 200, formula(*expected))

    def check_from_all_sheets(self, call, before, after):
        self.check(call, before, after)
        self.check(call, before, after, 0, 1)
        self.check(call, before, after, 1, 1)

    def test_put_in(self):
        for way in (ROWS, COLUMNS):
            call = insert(0, way, 5, 3, 2, 9)
            for before, after in (
                ((4, 5), (4, 5)), ((5, 5), (8, 5)), ((6, 5), (9, 5)), ((5, 2), (8, 2)), ((5, 9), (8, 9)),
                ((5, 1), (5, 1)), ((5, 10), (5, 10)), ((LAST[way] - 3, 5), (LAST[way], 5)),
                ((LAST[way] - 2, 5), None), ((LAST[way], 5), None), ((LAST[way], 1), (LAST[way], 1)),
            ):
                self.check_from_all_sheets(call, before, after)

    def test_taken_out(self):
        for way in (ROWS, COLUMNS):
            call = delete(0, way, 5, 3, 2, 9)
            for before, after in (
                ((4, 5), (4, 5)), ((5, 5), None), ((7, 5), None), ((8, 5), (5, 5)), ((9, 5), (6, 5)),
                ((5, 2), None), ((5, 9), None), ((8, 2), (5, 2)), ((8, 9), (5, 9)),
                ((5, 1), (5, 1)), ((5, 10), (5, 10)), ((8, 1), (8, 1)), ((LAST[way], 5), (LAST[way] - 3, 5)),
            ):
                self.check_from_all_sheets(call, before, after)

    def test_references_to_other_sheets_stay(self):
        for way in (ROWS, COLUMNS):
            for call in (insert(0, way, 5, 3, 2, 9), delete(0, way, 5, 3, 2, 9)):
                self.check(call, (6, 5), (6, 5), 0, 2)
                self.check(call, (6, 5), (6, 5), 1, 0)
                self.check(call, (6, 5), (6, 5), 1, 3)

    def check_going(self, way, call, before, after, spots):
        """A formula goes from a place and other to another; each reference is said anew from there."""
        self.setUp()
        contents = [formula(7, *name("F"), len(spots), *[n for pair in spots for n in to_cell(0, pair[index])])
                    for index in (0, 1)]
        self.put_at(way, 0, before[0], before[1], contents[0])
        self.done(call)
        self.assert_all({(0,) + across(way, after[0], after[1]): contents[1]})

    def test_a_formula_that_goes_itself(self):
        for way in (ROWS, COLUMNS):
            def so_far(places, others):
                return self.spot(way, places, others, 0)

            self.check_going(way, insert(0, way, 5, 3, 2, 9), (7, 4), (10, 4), [
                (so_far(-2, 0), so_far(-2, 0)), (so_far(-3, 0), so_far(-6, 0)), (so_far(0, 0), so_far(0, 0)),
                (so_far(-2, -3), so_far(-5, -3)), (self.spot(way, 7, 4), self.spot(way, 10, 4)),
                (self.spot(way, 4, 4), self.spot(way, 4, 4)), (so_far(20, 6), so_far(17, 6)),
            ])
            self.check_going(way, delete(0, way, 5, 3, 2, 9), (11, 4), (8, 4), [
                (so_far(-3, 0), so_far(-3, 0)), (so_far(-7, 0), so_far(-4, 0)), (so_far(0, 0), so_far(0, 0)),
                (so_far(-3, -3), so_far(0, -3)), (self.spot(way, 11, 4), self.spot(way, 8, 4)),
                (self.spot(way, 4, 4), self.spot(way, 4, 4)), (so_far(20, 6), so_far(23, 6)),
            ])

    def test_a_formula_that_goes_itself_and_refers_to_another_sheet(self):
        self.done(put(0, 7, 7, formula(*to_cell(2, off(1, 1)))), insert(0, ROWS, 0, 5, 0, 255))
        self.assert_all({(0, 12, 7): formula(*to_cell(2, off(-4, 1)))})
        self.done(insert(0, COLUMNS, 0, 5, 0, 4095))
        self.assert_all({(0, 12, 12): formula(*to_cell(2, off(-4, -4)))})
        self.done(delete(0, ROWS, 0, 3, 0, 255))
        self.assert_all({(0, 9, 12): formula(*to_cell(2, off(-1, -4)))})

    def test_one_coordinate_fixed(self):
        self.done(put(0, 7, 7, formula(6, 1, *to_cell(0, [1, 9, 0, 1]), *to_cell(0, [0, 2, 1, 8]))))
        self.done(insert(0, ROWS, 8, 5, 0, 255))
        self.assert_formula(0, 7, 7, [6, 1] + to_cell(0, [1, 14, 0, 1]) + to_cell(0, [0, 7, 1, 8]))
        self.done(insert(0, COLUMNS, 8, 5, 0, 4095))
        self.assert_formula(0, 7, 7, [6, 1] + to_cell(0, [1, 14, 0, 6]) + to_cell(0, [0, 7, 1, 13]))


class AreaReferences(ShiftCase):
    """What a reference to an area becomes. Areas are told as first and last place, first and last other."""

    def corners(self, way, area, order, kinds, own):
        """The two corners in one of the four orders; kinds tells of each corner whether it is fixed."""
        places = area[0:2] if order in (0, 1) else area[1::-1]
        others = area[2:4] if order in (0, 2) else area[:1:-1]
        spots = []
        for place, other, kind in zip(places, others, kinds):
            row, column = across(way, place, other)
            spots.append([kind, row - own[0] * (1 - kind), kind, column - own[1] * (1 - kind)])
        return to_area(0, *spots)

    def check(self, call, before, after):
        way = call[2]
        own = across(way, 200, 200)
        for order in range(4):
            for kinds in ((0, 0), (0, 1), (1, 0), (1, 1)):
                with self.subTest(call=call, before=before, order=order, kinds=kinds):
                    self.setUp()
                    told = self.corners(way, before, order, kinds, own)
                    expected = LOST if after is None else self.corners(way, after, order, kinds, own)
                    self.done(put(0, *own, formula(*told)), call)
                    self.assert_formula(0, *own, expected)

    def check_other_sheet(self, call, before, after):
        way = call[2]
        told = self.corners(way, before, 0, (1, 1), (0, 0))
        expected = LOST if after is None else self.corners(way, after, 0, (1, 1), (0, 0))
        self.setUp()
        self.done(put(1, 0, 0, formula(2, 1, *told[2:])), put(1, 1, 1, formula(2, 2, *told[2:])), call)
        self.assert_formula(1, 0, 0, LOST if after is None else [2, 1] + expected[2:])
        self.assert_formula(1, 1, 1, [2, 2] + told[2:])

    def check_all(self, call, cases):
        for before, after in cases:
            self.check(call, before, after)
            self.check_other_sheet(call, before, after)

    def test_put_in(self):
        for way in (ROWS, COLUMNS):
            last = LAST[way]
            self.check_all(insert(0, way, 10, 3, 2, 9), [
                ((2, 9, 3, 5), (2, 9, 3, 5)),
                ((2, 10, 3, 5), (2, 13, 3, 5)),
                ((9, 10, 2, 9), (9, 13, 2, 9)),
                ((10, 12, 3, 5), (13, 15, 3, 5)),
                ((11, 12, 3, 5), (14, 15, 3, 5)),
                ((2, 12, 1, 5), (2, 12, 1, 5)),
                ((12, 14, 3, 10), (12, 14, 3, 10)),
                ((12, 14, 0, 1), (12, 14, 0, 1)),
                ((2, last, 3, 5), (2, last, 3, 5)),
                ((2, last - 1, 3, 5), (2, last, 3, 5)),
                ((2, last - 3, 3, 5), (2, last, 3, 5)),
                ((2, last - 4, 3, 5), (2, last - 1, 3, 5)),
                ((10, last, 3, 5), (13, last, 3, 5)),
                ((last - 3, last, 3, 5), (last, last, 3, 5)),
                ((last - 2, last, 3, 5), None),
                ((last - 2, last, 3, 10), (last - 2, last, 3, 10)),
                ((last, last, 4, 4), None),
            ])

    def test_taken_out(self):
        for way in (ROWS, COLUMNS):
            last = LAST[way]
            self.check_all(delete(0, way, 10, 3, 2, 9), [
                ((2, 9, 3, 5), (2, 9, 3, 5)),
                ((2, 10, 3, 5), (2, 9, 3, 5)),
                ((2, 12, 2, 9), (2, 9, 2, 9)),
                ((2, 13, 3, 5), (2, 10, 3, 5)),
                ((9, 11, 3, 5), (9, 9, 3, 5)),
                ((10, 12, 3, 5), None),
                ((11, 11, 3, 5), None),
                ((10, 13, 3, 5), (10, 10, 3, 5)),
                ((11, 15, 3, 5), (10, 12, 3, 5)),
                ((12, 15, 3, 5), (10, 12, 3, 5)),
                ((13, 15, 3, 5), (10, 12, 3, 5)),
                ((14, 15, 3, 5), (11, 12, 3, 5)),
                ((10, 12, 1, 5), (10, 12, 1, 5)),
                ((10, 12, 3, 10), (10, 12, 3, 10)),
                ((13, 15, 10, 12), (13, 15, 10, 12)),
                ((0, last, 3, 5), (0, last - 3, 3, 5)),
            ])

    def test_taken_out_from_the_first_place(self):
        for way in (ROWS, COLUMNS):
            self.check_all(delete(0, way, 0, 3, 2, 9), [
                ((0, 2, 3, 5), None),
                ((0, 3, 3, 5), (0, 0, 3, 5)),
                ((3, 4, 3, 5), (0, 1, 3, 5)),
            ])

    def test_formula_and_area_go_both(self):
        told = to_area(0, off(3, 1), off(-2, -1))
        self.done(put(0, 20, 20, formula(*told)), insert(0, ROWS, 19, 4, 0, 255))
        self.assert_all({(0, 24, 20): formula(*to_area(0, off(3, 1), off(-6, -1)))})
        self.done(delete(0, ROWS, 0, 18, 0, 255))
        self.assert_all({(0, 6, 20): formula(*to_area(0, off(3, 1), off(-6, -1)))})
        self.done(insert(0, COLUMNS, 20, 2, 0, 4095))
        self.assert_all({(0, 6, 22): formula(*to_area(0, off(3, 1), off(-6, -3)))})

    def test_an_area_of_the_same_row_or_column_stays_one(self):
        self.done(put(0, 0, 0, formula(*to_area(0, fixed(9, 9), [0, 9, 1, 5]))), insert(0, ROWS, 9, 4, 0, 255))
        self.assert_formula(0, 0, 0, to_area(0, fixed(13, 9), [0, 13, 1, 5]))

    def test_of_several_references_each_is_said_anew(self):
        self.done(
            put(0, 0, 0, formula(7, *name("SUM"), 4, *to_cell(0, fixed(10, 0)), 0, 2, 6, 1, 0, 0, 1, 0, 1,
                                 5, 20, *to_area(1, fixed(3, 0), fixed(12, 0)), *to_cell(0, off(10, 1)))),
            delete(0, ROWS, 10, 1, 0, 255),
        )
        self.assert_formula(0, 0, 0, [7] + name("SUM") + [4] + LOST + [0, 2, 6, 1, 0, 0, 1, 0, 1, 5, 20]
                            + to_area(1, fixed(3, 0), fixed(11, 0)) + LOST)

    def test_numbers_that_look_like_references_stay(self):
        alike = formula(8, 2, 2, 1, 1, 1, 2, 2, 2, 1, 2, 3, 1)
        self.done(put(0, 9, 9, [0, 1, 2]), put(0, 9, 8, alike), put(0, 9, 7, formula(0, 1, 1)))
        self.done(put(0, 9, 6, [0, 2, 6, 1, 0, 1, 5, 1, 5]), insert(0, ROWS, 0, 5, 0, 255))
        self.assert_all({
            (0, 14, 9): [0, 1, 2], (0, 14, 8): alike, (0, 14, 7): formula(0, 1, 1),
            (0, 14, 6): [0, 2, 6, 1, 0, 1, 5, 1, 5],
        })


class Names(ShiftCase):
    def test_names_are_said_anew(self):
        for way in (ROWS, COLUMNS):
            self.setUp()
            cell = to_cell(1, self.spot(way, 12, 5))
            area = to_area(1, self.spot(way, 14, 7), self.spot(way, 3, 4))
            other = to_cell(2, self.spot(way, 12, 5))
            self.done(define("C", cell), define("A", area), define("B", other), insert(0, way, 10, 3, 2, 9))
            self.assert_names([
                ("C", to_cell(1, self.spot(way, 15, 5))),
                ("A", to_area(1, self.spot(way, 17, 7), self.spot(way, 3, 4))),
                ("B", other),
            ])
            self.done(delete(0, way, 15, 9, 0, LAST[1 - way]))
            area_then = to_area(1, self.spot(way, 14, 7), self.spot(way, 3, 4))
            self.assert_names([("C", LOST), ("A", area_then), ("B", other)])
            self.done(delete(0, way, 0, 30, 0, LAST[1 - way]))
            self.assert_names([("C", LOST), ("A", LOST), ("B", other)])


if __name__ == "__main__":
    unittest.main()
