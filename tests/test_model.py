"""Calls in any mix held against a model that keeps what each reference leads to, and never how it is told.

The calls are drawn from seeds that are written here, so that each run is the same.
"""

import random
import unittest

from cellsheets.book import Workbook
from cellsheets.workbook import answers
from tests.helper import (
    COLUMNS, LOST, NAMES, ROWS, SHEETS, cells, clear, define, delete, fill, flat, gone, insert, look, move, name,
    names_of, perform, put, sheet, standing, titles_of,
)

LAST = (4095, 255)
GONE = "gone"


class Reference:
    """Where it leads to: a sheet and one or two corners; besides how it is to be told."""

    def __init__(self, own_sheet_told, at_sheet, corners, kinds):
        self.own_sheet_told = own_sheet_told
        self.at_sheet = at_sheet
        self.corners = corners
        self.kinds = kinds

    def told(self, own):
        numbers = [len(self.corners), 0 if self.own_sheet_told else self.at_sheet + 1]
        for corner, kinds in zip(self.corners, self.kinds):
            for axis in (ROWS, COLUMNS):
                away = 0 if kinds[axis] else own[1 + axis]
                numbers += [kinds[axis], corner[axis] - away]
        return numbers

    def after(self, goes, own_after):
        spans = [sorted([corner[axis] for corner in self.corners]) for axis in (ROWS, COLUMNS)]
        found = goes(self.at_sheet, (spans[0][0], spans[0][-1]), (spans[1][0], spans[1][-1]))
        if found is None:
            return GONE
        to_sheet, new_spans = found[0], found[1:]
        corners = [[0, 0] for corner in self.corners]
        for axis in (ROWS, COLUMNS):
            turned = self.corners[0][axis] > self.corners[-1][axis]
            corners[0][axis] = new_spans[axis][1 if turned else 0]
            corners[-1][axis] = new_spans[axis][0 if turned or len(corners) == 1 else 1]
        return Reference(self.own_sheet_told and to_sheet == own_after, to_sheet, corners, self.kinds)

    def copied(self, own, own_after):
        """The same reference in another cell's formula: it leads as far off as before, if that's on the sheet."""
        corners = []
        for corner, kinds in zip(self.corners, self.kinds):
            away = [0 if kinds[axis] else own_after[1 + axis] - own[1 + axis] for axis in (ROWS, COLUMNS)]
            corners.append([corner[axis] + away[axis] for axis in (ROWS, COLUMNS)])
        for corner in corners:
            if not (0 <= corner[0] <= LAST[0] and 0 <= corner[1] <= LAST[1]):
                return GONE
        at_sheet = own_after[0] if self.own_sheet_told else self.at_sheet
        return Reference(self.own_sheet_told, at_sheet, corners, self.kinds)


def shift(at_sheet, way, a, n, lo, hi, put_in):
    def goes(on_sheet, rows, columns):
        spans = [rows, columns]
        others = spans[1 - way]
        if on_sheet != at_sheet or others[0] < lo or others[1] > hi:
            return on_sheet, rows, columns
        places = set(range(spans[way][0], spans[way][1] + 1))
        if put_in:
            places = {place + n if place >= a else place for place in places}
            if min(places) > LAST[way]:
                return None
            spans[way] = (min(places), min(max(places), LAST[way]))
        else:
            places = {place - n if place >= a else place for place in places if not a <= place < a + n}
            if not places:
                return None
            spans[way] = (min(places), max(places))
        return on_sheet, spans[0], spans[1]
    return goes


def within(span, outer):
    return outer[0] <= span[0] and span[1] <= outer[1]


def moving(at_sheet, area_rows, area_columns, to_sheet, to_row, to_column):
    down, right = to_row - area_rows[0], to_column - area_columns[0]

    def goes(on_sheet, rows, columns):
        if on_sheet == at_sheet and within(rows, area_rows) and within(columns, area_columns):
            return to_sheet, (rows[0] + down, rows[1] + down), (columns[0] + right, columns[1] + right)
        there = within(rows, (to_row, area_rows[1] + down)) and within(columns, (to_column, area_columns[1] + right))
        return None if on_sheet == to_sheet and there else (on_sheet, rows, columns)
    return goes


class Model:
    def __init__(self):
        self.sheets = {}
        self.cells = {}
        self.names = {}

    def change(self, goes):
        cells = {}
        for own, references in self.cells.items():
            found = goes(own[0], (own[1], own[1]), (own[2], own[2]))
            if found is not None:
                cells[(found[0], found[1][0], found[2][0])] = [
                    one if one == GONE else one.after(goes, found[0]) for one in references
                ]
        self.cells = cells
        for letters, one in self.names.items():
            self.names[letters] = one if one == GONE else one.after(goes, None)

    def within(self, at_sheet, rows, columns):
        return [own for own in self.cells if own[0] == at_sheet and rows[0] <= own[1] <= rows[1]
                and columns[0] <= own[2] <= columns[1]]

    def clear(self, at_sheet, rows, columns):
        for own in self.within(at_sheet, rows, columns):
            del self.cells[own]

    def fill(self, at_sheet, rows, columns, to_sheet, to_rows, to_columns):
        before = dict(self.cells)
        self.clear(to_sheet, to_rows, to_columns)
        for row in range(to_rows[0], to_rows[1] + 1):
            for column in range(to_columns[0], to_columns[1] + 1):
                own = (at_sheet, rows[0] + (row - to_rows[0]) % (rows[1] + 1 - rows[0]),
                       columns[0] + (column - to_columns[0]) % (columns[1] + 1 - columns[0]))
                if own in before:
                    after = (to_sheet, row, column)
                    self.cells[after] = [one if one == GONE else one.copied(own, after) for one in before[own]]

    def told(self, own):
        references = self.cells[own]
        parts = [LOST if one == GONE else one.told(own) for one in references]
        return [1, 7] + name("F") + [len(parts)] + flat(parts)

    def standing(self):
        return {own: self.told(own) for own in self.cells}

    def names_told(self):
        return [(letters, LOST if one == GONE else one.told(None)) for letters, one in self.names.items()]


class Drawn(unittest.TestCase):
    def place(self, axis):
        """Near the beginning or the end of a sheet, where calls and references meet often."""
        near = self.random.randrange(9)
        return near if self.random.random() < 0.7 else LAST[axis] - near

    def span(self, axis):
        first = self.place(axis)
        if self.random.random() < 0.2:
            return tuple(sorted([first, self.place(axis)]))
        return first, min(first + self.random.randrange(5), LAST[axis])

    def reference(self, own_sheet):
        own_told = own_sheet is not None and self.random.random() < 0.5
        at_sheet = own_sheet if own_told else self.random.choice(list(self.model.sheets))
        many = self.random.choice([1, 2])
        corners = [[self.place(ROWS), self.place(COLUMNS)]]
        if many == 2:
            rows, columns = self.span(ROWS), self.span(COLUMNS)
            corners = [list(corner) for corner in zip(self.random.sample(rows, 2), self.random.sample(columns, 2))]
        kinds = [[1 if own_sheet is None else self.random.randrange(2) for axis in (0, 1)] for corner in corners]
        return Reference(own_told, at_sheet, corners, kinds)

    def answer(self, call):
        self.calls.append(call)
        self.answers.append(perform(self.book, [call])[0])
        return self.answers[-1]

    def do(self, call):
        told = self.answer(call)
        self.assertEqual(len(told), 1)
        return told[0]

    def any_sheet(self):
        return self.random.choice(list(self.model.sheets))

    def small_span(self, axis):
        first = self.place(axis)
        return first, min(first + self.random.randrange(5), LAST[axis])

    def draw_sheet(self):
        if len(self.model.sheets) < 4:
            title = str(self.random.random())
            at_sheet = min(set(range(64)) - set(self.model.sheets))
            self.assertEqual(self.do(sheet(title)), at_sheet)
            self.model.sheets[at_sheet] = title

    def draw_gone(self):
        if len(self.model.sheets) > 2:
            at_sheet = self.random.choice(list(self.model.sheets))
            self.assertEqual(self.do(gone(at_sheet)), 0)
            self.model.change(lambda on, rows, columns: None if on == at_sheet else (on, rows, columns))
            del self.model.sheets[at_sheet]

    def draw_put(self):
        for index in range(6):
            own = (self.random.choice(list(self.model.sheets)), self.place(ROWS), self.place(COLUMNS))
            self.model.cells[own] = [self.reference(own[0]) for count in range(4)]
            self.assertEqual(self.do(put(*own, self.model.told(own))), 0)

    def draw_name(self):
        letters = self.random.choice("ABCDEFG")
        if self.random.random() < 0.2:
            self.assertEqual(self.do(define(letters, [])), 0 if letters in self.model.names else -2)
            self.model.names.pop(letters, None)
            return
        one = self.reference(None)
        self.assertEqual(self.do(define(letters, one.told(None))), 0)
        self.model.names.pop(letters, None)
        self.model.names[letters] = one

    def draw_fill(self):
        at_sheet, to_sheet = self.any_sheet(), self.any_sheet()
        spans = [self.small_span(axis) for axis in (ROWS, COLUMNS, ROWS, COLUMNS)]
        self.assertEqual(self.do(fill(at_sheet, *spans[0], *spans[1], to_sheet, *spans[2], *spans[3])), 0)
        self.model.fill(at_sheet, *spans[:2], to_sheet, *spans[2:])

    def draw_clear(self):
        at_sheet, rows, columns = self.any_sheet(), self.small_span(ROWS), self.small_span(COLUMNS)
        many = len(self.model.within(at_sheet, rows, columns))
        self.assertEqual(self.do(clear(at_sheet, *rows, *columns)), many)
        self.model.clear(at_sheet, rows, columns)

    def draw_look(self):
        at_sheet, rows, columns = self.any_sheet(), self.span(ROWS), self.span(COLUMNS)
        there = sorted(self.model.within(at_sheet, rows, columns))
        told = [len(there)] + flat([own[1:] for own in there[:1024]])
        self.assertEqual(self.answer(cells(at_sheet, *rows, *columns)), told)
        for own in [self.random.choice(there)] if there else []:
            self.assertEqual(self.answer(look(*own)), [1] + self.model.told(own))

    def draw_lists(self):
        self.answer(NAMES)
        self.answer(SHEETS)

    def draw_refusal(self):
        """One of a sheet that isn't there, or of an area that is none."""
        area = self.random.choice([(2, 1, 0, 0), (0, 4096, 0, 0), (0, 0, 0, 256), (0, 0, 5, 4)])
        self.assertEqual(self.do(self.random.choice([
            fill(9, *area, 9, 0, 0, 0, 0), fill(0, 0, 0, 0, 0, 0, *area), clear(0, *area), cells(9, *area),
            move(0, *area, 0, 0, 0), look(9, 4096, 0), insert(9, ROWS, 1, 4096, 0, 255), put(0, 0, 256, []),
        ])), -1)
        self.assertEqual(self.do(self.random.choice([
            fill(9, 0, 0, 0, 0, 0, 0, 0, 0, 0), clear(9, 0, 0, 0, 0), cells(9, 0, 0, 0, 0), look(9, 0, 0), gone(9),
            move(9, 0, 0, 0, 0, 9, 0, 0), delete(9, ROWS, 1, 1, 0, 255), put(9, 0, 0, []), define("ZZ", []),
        ])), -2)

    def draw_shift(self):
        at_sheet, way = self.random.choice(list(self.model.sheets)), self.random.randrange(2)
        a = self.place(way)
        n = min(self.random.randrange(1, 4), LAST[way] + 1 - a)
        lo, hi = self.random.choice([(0, LAST[1 - way]), self.span(1 - way)])
        put_in = self.random.random() < 0.6
        goes = shift(at_sheet, way, a, n, lo, hi, put_in)
        told = (at_sheet, way, a, n, lo, hi)
        if put_in and any(goes(own[0], (own[1],) * 2, (own[2],) * 2) is None for own in self.model.cells):
            self.assertEqual(self.do(insert(*told)), -5)
            return
        self.assertEqual(self.do(insert(*told) if put_in else delete(*told)), 0)
        self.model.change(goes)

    def draw_move(self):
        at_sheet, to_sheet = [self.random.choice(list(self.model.sheets)) for index in (0, 1)]
        rows, columns = self.span(ROWS), self.span(COLUMNS)
        to_row, to_column = self.place(ROWS), self.place(COLUMNS)
        beyond = to_row + rows[1] - rows[0] > LAST[0] or to_column + columns[1] - columns[0] > LAST[1]
        self.assertEqual(self.do(move(at_sheet, *rows, *columns, to_sheet, to_row, to_column)), -1 if beyond else 0)
        if not beyond:
            self.model.change(moving(at_sheet, rows, columns, to_sheet, to_row, to_column))

    def run_from(self, seed):
        self.random = random.Random(seed)
        self.book, self.model = Workbook(), Model()
        self.calls, self.answers = [], []
        for index in range(3):
            self.draw_sheet()
        draws = [self.draw_put] * 4 + [self.draw_shift] * 6 + [self.draw_move] * 4
        draws += [self.draw_name] * 2 + [self.draw_sheet, self.draw_gone]
        draws += [self.draw_fill] * 4 + [self.draw_clear, self.draw_look, self.draw_lists, self.draw_refusal]
        for step in range(60):
            self.random.choice(draws)()
            self.assertEqual(standing(self.book), self.model.standing(), (seed, step))
            self.assertEqual(names_of(self.book), self.model.names_told(), (seed, step))
            sheets = [(at, list(title.encode())) for at, title in sorted(self.model.sheets.items())]
            self.assertEqual(titles_of(self.book), sheets, (seed, step))
        self.check_whole_list()

    def check_whole_list(self):
        handed_in = flat(self.calls)
        self.assertEqual(answers(handed_in), flat([[len(one)] + one for one in self.answers]))
        self.assertEqual(handed_in, flat(self.calls))

    def test_as_the_model_says(self):
        for seed in range(80):
            self.run_from(seed)


if __name__ == "__main__":
    unittest.main()
