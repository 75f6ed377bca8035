"""Promises 1 to 3 held against a model that keeps what each reference leads to, and never how it is told.

The calls are drawn from seeds that are written here, so that each run is the same.
"""

import random
import unittest

from cellsheets.book import Workbook
from tests.helper import (
    COLUMNS, LOST, ROWS, delete, flat, gone, insert, move, name, names_of, perform, put, sheet, standing,
)

LAST = (4095, 255)
GONE = "gone"


class Reference:
    """Where it leads to: a sheet and one or two corners; besides how it is to be told."""

    def __init__(self, own_sheet_told, at_sheet, corners, kinds):
        self.own_sheet_told = own_sheet_told
        self.at_sheet = at_sheet
        self.corners = corners
        self.kinds = kinds

    def told(self, own):
        numbers = [len(self.corners), 0 if self.own_sheet_told else self.at_sheet + 1]
        for corner, kinds in zip(self.corners, self.kinds):
            for axis in (ROWS, COLUMNS):
                away = 0 if kinds[axis] else own[1 + axis]
                numbers += [kinds[axis], corner[axis] - away]
        return numbers

    def after(self, goes, own_after):
        spans = [sorted([corner[axis] for corner in self.corners]) for axis in (ROWS, COLUMNS)]
        found = goes(self.at_sheet, (spans[0][0], spans[0][-1]), (spans[1][0], spans[1][-1]))
        if found is None:
            return GONE
        to_sheet, new_spans = found[0], found[1:]
        corners = [[0, 0] for corner in self.corners]
        for axis in (ROWS, COLUMNS):
            turned = self.corners[0][axis] > self.corners[-1][axis]
            corners[0][axis] = new_spans[axis][1 if turned else 0]
            corners[-1][axis] = new_spans[axis][0 if turned or len(corners) == 1 else 1]
        return Reference(self.own_sheet_told and to_sheet == own_after, to_sheet, corners, self.kinds)


def shift(at_sheet, way, a, n, lo, hi, put_in):
    def goes(on_sheet, rows, columns):
        spans = [rows, columns]
        others = spans[1 - way]
        if on_sheet != at_sheet or others[0] < lo or others[1] > hi:
            return on_sheet, rows, columns
        places = set(range(spans[way][0], spans[way][1] + 1))
        if put_in:
            places = {place + n if place >= a else place for place in places}
            if min(places) > LAST[way]:
                return None
            spans[way] = (min(places), min(max(places), LAST[way]))
        else:
            places = {place - n if place >= a else place for place in places if not a <= place < a + n}
            if not places:
                return None
            spans[way] = (min(places), max(places))
        return on_sheet, spans[0], spans[1]
    return goes


def within(span, outer):
    return outer[0] <= span[0] and span[1] <= outer[1]


def moving(at_sheet, area_rows, area_columns, to_sheet, to_row, to_column):
    down, right = to_row - area_rows[0], to_column - area_columns[0]

    def goes(on_sheet, rows, columns):
        if on_sheet == at_sheet and within(rows, area_rows) and within(columns, area_columns):
            return to_sheet, (rows[0] + down, rows[1] + down), (columns[0] + right, columns[1] + right)
        there = within(rows, (to_row, area_rows[1] + down)) and within(columns, (to_column, area_columns[1] + right))
        return None if on_sheet == to_sheet and there else (on_sheet, rows, columns)
    return goes


class Model:
    def __init__(self):
        self.sheets = {}
        self.cells = {}
        self.names = []

    def change(self, goes):
        cells = {}
        for own, references in self.cells.items():
            found = goes(own[0], (own[1], own[1]), (own[2], own[2]))
            if found is not None:
                cells[(found[0], found[1][0], found[2][0])] = [
                    one if one == GONE else one.after(goes, found[0]) for one in references
                ]
        self.cells = cells
        self.names = [one if one == GONE else one.after(goes, None) for one in self.names]

    def told(self, own):
        references = self.cells[own]
        parts = [LOST if one == GONE else one.told(own) for one in references]
        return [1, 7] + name("F") + [len(parts)] + flat(parts)

    def standing(self):
        return {own: self.told(own) for own in self.cells}

    def names_told(self):
        return [LOST if one == GONE else one.told(None) for one in self.names]


class Drawn(unittest.TestCase):
    def place(self, axis):
        """Near the beginning or the end of a sheet, where calls and references meet often."""
        near = self.random.randrange(9)
        return near if self.random.random() < 0.7 else LAST[axis] - near

    def span(self, axis):
        first = self.place(axis)
        if self.random.random() < 0.2:
            return tuple(sorted([first, self.place(axis)]))
        return first, min(first + self.random.randrange(5), LAST[axis])

    def reference(self, own_sheet):
        own_told = own_sheet is not None and self.random.random() < 0.5
        at_sheet = own_sheet if own_told else self.random.choice(list(self.model.sheets))
        many = self.random.choice([1, 2])
        corners = [[self.place(ROWS), self.place(COLUMNS)]]
        if many == 2:
            rows, columns = self.span(ROWS), self.span(COLUMNS)
            corners = [list(corner) for corner in zip(self.random.sample(rows, 2), self.random.sample(columns, 2))]
        kinds = [[1 if own_sheet is None else self.random.randrange(2) for axis in (0, 1)] for corner in corners]
        return Reference(own_told, at_sheet, corners, kinds)

    def do(self, call):
        return perform(self.book, [call])[0][0]

    def draw_sheet(self):
        if len(self.model.sheets) < 4:
            title = str(self.random.random())
            at_sheet = min(set(range(64)) - set(self.model.sheets))
            self.assertEqual(self.do(sheet(title)), at_sheet)
            self.model.sheets[at_sheet] = title

    def draw_gone(self):
        if len(self.model.sheets) > 2:
            at_sheet = self.random.choice(list(self.model.sheets))
            self.assertEqual(self.do(gone(at_sheet)), 0)
            self.model.change(lambda on, rows, columns: None if on == at_sheet else (on, rows, columns))
            del self.model.sheets[at_sheet]

    def draw_put(self):
        for index in range(6):
            own = (self.random.choice(list(self.model.sheets)), self.place(ROWS), self.place(COLUMNS))
            self.model.cells[own] = [self.reference(own[0]) for count in range(4)]
            self.assertEqual(self.do(put(*own, self.model.told(own))), 0)

    def draw_name(self):
        # Names are put in by hand: what is told here is what becomes of them.
        one = self.reference(None)
        self.book.names[(len(self.model.names),)] = tuple(one.told(None))
        self.model.names.append(one)

    def draw_shift(self):
        at_sheet, way = self.random.choice(list(self.model.sheets)), self.random.randrange(2)
        a = self.place(way)
        n = min(self.random.randrange(1, 4), LAST[way] + 1 - a)
        lo, hi = self.random.choice([(0, LAST[1 - way]), self.span(1 - way)])
        put_in = self.random.random() < 0.6
        goes = shift(at_sheet, way, a, n, lo, hi, put_in)
        told = (at_sheet, way, a, n, lo, hi)
        if put_in and any(goes(own[0], (own[1],) * 2, (own[2],) * 2) is None for own in self.model.cells):
            self.assertEqual(self.do(insert(*told)), -5)
            return
        self.assertEqual(self.do(insert(*told) if put_in else delete(*told)), 0)
        self.model.change(goes)

    def draw_move(self):
        at_sheet, to_sheet = [self.random.choice(list(self.model.sheets)) for index in (0, 1)]
        rows, columns = self.span(ROWS), self.span(COLUMNS)
        to_row, to_column = self.place(ROWS), self.place(COLUMNS)
        beyond = to_row + rows[1] - rows[0] > LAST[0] or to_column + columns[1] - columns[0] > LAST[1]
        self.assertEqual(self.do(move(at_sheet, *rows, *columns, to_sheet, to_row, to_column)), -1 if beyond else 0)
        if not beyond:
            self.model.change(moving(at_sheet, rows, columns, to_sheet, to_row, to_column))

    def run_from(self, seed):
        self.random = random.Random(seed)
        self.book, self.model = Workbook(), Model()
        for index in range(3):
            self.draw_sheet()
        draws = [self.draw_put] * 4 + [self.draw_shift] * 6 + [self.draw_move] * 4
        draws += [self.draw_name, self.draw_sheet, self.draw_gone]
        for step in range(60):
            self.random.choice(draws)()
            self.assertEqual(standing(self.book), self.model.standing(), (seed, step))
            self.assertEqual([told for own, told in names_of(self.book)], self.model.names_told(), (seed, step))
            self.assertEqual(sorted(self.book.titles), sorted(self.model.sheets))

    def test_as_the_model_says(self):
        for seed in range(80):
            self.run_from(seed)


if __name__ == "__main__":
    unittest.main()
