"""A workbook and what is done with it. Each call answers a list of numbers, a refusal its number alone."""

from cellsheets.areas import band_of, cell_at
from cellsheets.changes import Deletion, Insertion, Move, SheetLoss
from cellsheets.contents import read_content
from cellsheets.limits import (
    ALREADY_THERE,
    DONE,
    MOST_CELLS,
    MOST_SHEETS,
    NO_ROOM,
    NO_SUCH_SHEET,
    NOT_WELL_MADE,
    WRONG_PLACE,
)
from cellsheets.reading import NotWellMade
from cellsheets.references import all_lead_somewhere, content_anew, part_anew
from cellsheets.texts import is_title


class Workbook:
    """titles: of each sheet its title. cells: of each sheet the contents, by row and column, none of them empty.
    names: of each name, in their order, its reference (or the error that it became)."""

    def __init__(self):
        self.titles = {}
        self.cells = {}
        self.names = {}

    def start_anew(self):
        self.titles = {}
        self.cells = {}
        self.names = {}
        return [DONE]

    def add_sheet(self, title):
        if not is_title(title):
            return [NOT_WELL_MADE]
        if title in list(self.titles.values()):
            return [ALREADY_THERE]
        if len(self.titles) == MOST_SHEETS:
            return [NO_ROOM]
        sheet = min([number for number in range(MOST_SHEETS) if number not in self.titles])
        self.titles[sheet] = title
        self.cells[sheet] = {}
        return [sheet]

    def drop_sheet(self, sheet):
        if sheet not in self.titles:
            return [NO_SUCH_SHEET]
        self.titles.pop(sheet)
        self.make_change(SheetLoss(sheet))
        return [DONE]

    def set_cell(self, sheet, row, column, told):
        own = cell_at(sheet, row, column)
        if not own.is_on_sheet():
            return [WRONG_PLACE]
        if sheet not in self.titles:
            return [NO_SUCH_SHEET]
        try:
            content = read_content(told)
        except NotWellMade:
            return [NOT_WELL_MADE]
        if not all_lead_somewhere(content, own, self.titles):
            return [NOT_WELL_MADE]
        return self.put(sheet, (row, column), content)

    def put(self, sheet, spot, content):
        standing = self.cells[sheet]
        if content.is_empty():
            standing.pop(spot, None)
            return [DONE]
        if spot not in standing and self.count_cells() == MOST_CELLS:
            return [NO_ROOM]
        standing[spot] = content
        return [DONE]

    def count_cells(self):
        return sum([len(standing) for standing in self.cells.values()])

    def insert_places(self, sheet, way, start, many, lo, hi):
        refusal = self.refusal_of_shift(sheet, way, start, many, lo, hi)
        if refusal != DONE:
            return [refusal]
        change = Insertion(band_of(sheet, way, lo, hi), way, start, many)
        if self.would_lose_some(sheet, change):
            return [NO_ROOM]
        self.make_change(change)
        return [DONE]

    def delete_places(self, sheet, way, start, many, lo, hi):
        refusal = self.refusal_of_shift(sheet, way, start, many, lo, hi)
        if refusal != DONE:
            return [refusal]
        self.make_change(Deletion(band_of(sheet, way, lo, hi), way, start, many))
        return [DONE]

    def refusal_of_shift(self, sheet, way, start, many, lo, hi):
        band = band_of(sheet, way, lo, hi)
        # Where the last of the places put in or taken out is on the sheet, so is the first.
        if many == 0 or start + many - 1 > band.last_place(way) or not band.is_on_sheet():
            return WRONG_PLACE
        return DONE if sheet in self.titles else NO_SUCH_SHEET

    def would_lose_some(self, sheet, change):
        return any([change.area_after(cell_at(sheet, spot[0], spot[1])) is None for spot in self.cells[sheet]])

    def move_area(self, source, to_sheet, to_row, to_column):
        target = source.shifted(to_sheet, to_row - source.first_row, to_column - source.first_column)
        if not source.is_on_sheet() or not target.is_on_sheet():
            return [WRONG_PLACE]
        if source.sheet not in self.titles or to_sheet not in self.titles:
            return [NO_SUCH_SHEET]
        self.make_change(Move(source, target))
        return [DONE]

    def make_change(self, change):
        """Lets each content stand where its cell goes, and says each reference of formulas and names anew."""
        before = self.cells
        self.cells = {}
        for sheet in self.titles:
            self.cells[sheet] = {}
        for sheet in before:
            self.take_over(sheet, before[sheet], change)
        # A name's coordinates are fixed and its sheet is told, so that it is all the same which cell is its own.
        own = cell_at(0, 0, 0)
        for name in list(self.names):
            self.names[name] = part_anew(self.names[name], own, own, change)

    def take_over(self, sheet, standing, change):
        for spot, content in standing.items():
            own = cell_at(sheet, spot[0], spot[1])
            own_after = change.area_after(own)
            if own_after is not None:
                place = (own_after.first_row, own_after.first_column)
                self.cells[own_after.sheet][place] = content_anew(content, own, own_after, change)
