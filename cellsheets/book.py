"""A workbook and what is done with it. Each call answers a list of numbers, a refusal its number alone."""

from cellsheets.areas import band_of, cell_at
from cellsheets.changes import Deletion, Insertion, Move, SheetLoss
from cellsheets.contents import read_content
from cellsheets.filling import count_filled, spots_filled
from cellsheets.limits import (
    ALREADY_THERE,
    DONE,
    MOST_CELLS,
    MOST_LISTED,
    MOST_NAMES,
    MOST_SHEETS,
    NO_ROOM,
    NO_SUCH_NAME,
    NO_SUCH_SHEET,
    NOT_WELL_MADE,
    WRONG_PLACE,
)
from cellsheets.reading import NotWellMade
from cellsheets.references import (
    all_lead_somewhere,
    content_anew,
    content_copied,
    leads_somewhere,
    part_anew,
    read_fixed_reference,
)
from cellsheets.texts import is_name, is_title

NOTHING_STANDS = 0
SOMETHING_STANDS = 1


def cell_of_names():
    """A name's coordinates are fixed and its sheet is told, so that it is all the same which cell is its own."""
    return cell_at(0, 0, 0)


class Workbook:
    """titles: of each sheet its title. cells: of each sheet the contents, by row and column, none of them empty.
    names: of each name, in their order, its reference (or the error that it became)."""

    def __init__(self):
        self.titles = {}
        self.cells = {}
        self.names = {}

    def start_anew(self):
        self.titles = {}
        self.cells = {}
        self.names = {}
        return [DONE]

    def add_sheet(self, title):
        if not is_title(title):
            return [NOT_WELL_MADE]
        if title in list(self.titles.values()):
            return [ALREADY_THERE]
        if len(self.titles) == MOST_SHEETS:
            return [NO_ROOM]
        sheet = min([number for number in range(MOST_SHEETS) if number not in self.titles])
        self.titles[sheet] = title
        self.cells[sheet] = {}
        return [sheet]

    def drop_sheet(self, sheet):
        if sheet not in self.titles:
            return [NO_SUCH_SHEET]
        self.titles.pop(sheet)
        self.make_change(SheetLoss(sheet))
        return [DONE]

    def refusal_of_areas(self, areas):
        """The refusal of a call that is told by these areas, or DONE: all places come before all sheets."""
        if not all([area.is_on_sheet() for area in areas]):
            return WRONG_PLACE
        return DONE if all([area.sheet in self.titles for area in areas]) else NO_SUCH_SHEET

    def set_cell(self, sheet, row, column, told):
        own = cell_at(sheet, row, column)
        refusal = self.refusal_of_areas([own])
        if refusal != DONE:
            return [refusal]
        try:
            content = read_content(told)
        except NotWellMade:
            return [NOT_WELL_MADE]
        if not all_lead_somewhere(content, own, self.titles):
            return [NOT_WELL_MADE]
        return self.put(sheet, (row, column), content)

    def put(self, sheet, spot, content):
        standing = self.cells[sheet]
        if content.is_empty():
            standing.pop(spot, None)
            return [DONE]
        if spot not in standing and self.count_cells() == MOST_CELLS:
            return [NO_ROOM]
        standing[spot] = content
        return [DONE]

    def count_cells(self):
        return sum([len(standing) for standing in self.cells.values()])

    def insert_places(self, sheet, way, start, many, lo, hi):
        refusal = self.refusal_of_shift(sheet, way, start, many, lo, hi)
        if refusal != DONE:
            return [refusal]
        change = Insertion(band_of(sheet, way, lo, hi), way, start, many)
        if self.would_lose_some(sheet, change):
            return [NO_ROOM]
        self.make_change(change)
        return [DONE]

    def delete_places(self, sheet, way, start, many, lo, hi):
        refusal = self.refusal_of_shift(sheet, way, start, many, lo, hi)
        if refusal != DONE:
            return [refusal]
        self.make_change(Deletion(band_of(sheet, way, lo, hi), way, start, many))
        return [DONE]

    def refusal_of_shift(self, sheet, way, start, many, lo, hi):
        band = band_of(sheet, way, lo, hi)
        # Where the last of the places put in or taken out is on the sheet, so is the first.
        if many == 0 or start + many - 1 > band.last_place(way):
            return WRONG_PLACE
        return self.refusal_of_areas([band])

    def would_lose_some(self, sheet, change):
        return any([change.area_after(cell_at(sheet, spot[0], spot[1])) is None for spot in self.cells[sheet]])

    def move_area(self, source, to_sheet, to_row, to_column):
        target = source.shifted(to_sheet, to_row - source.first_row, to_column - source.first_column)
        refusal = self.refusal_of_areas([source, target])
        if refusal != DONE:
            return [refusal]
        self.make_change(Move(source, target))
        return [DONE]

    def make_change(self, change):
        """Lets each content stand where its cell goes, and says each reference of formulas and names anew."""
        before = self.cells
        self.cells = {}
        for sheet in self.titles:
            self.cells[sheet] = {}
        for sheet in before:
            self.take_over(sheet, before[sheet], change)
        own = cell_of_names()
        for name in list(self.names):
            self.names[name] = part_anew(self.names[name], own, own, change)

    def take_over(self, sheet, standing, change):
        for spot, content in standing.items():
            own = cell_at(sheet, spot[0], spot[1])
            own_after = change.area_after(own)
            if own_after is not None:
                place = (own_after.first_row, own_after.first_column)
                self.cells[own_after.sheet][place] = content_anew(content, own, own_after, change)

    def spots_within(self, area):
        """Where in the area something stands, in no order."""
        return [spot for spot in self.cells[area.sheet] if area.has(spot[0], spot[1])]

    def fill_area(self, source, target):
        refusal = self.refusal_of_areas([source, target])
        if refusal != DONE:
            return [refusal]
        filled = count_filled(self.spots_within(source), source, target)
        if self.count_cells() - len(self.spots_within(target)) + filled > MOST_CELLS:
            return [NO_ROOM]
        # All copies are made before the first is put in, as the areas may overlap.
        copies = self.copies_for(source, target)
        self.take_out(target)
        for spot in copies:
            self.cells[target.sheet][spot] = copies[spot]
        return [DONE]

    def copies_for(self, source, target):
        """What a fill puts in: contents by row and column."""
        copies = {}
        for spot in self.spots_within(source):
            content = self.cells[source.sheet][spot]
            for place in spots_filled(spot, source, target):
                copies[place] = content_copied(content, cell_at(target.sheet, place[0], place[1]), self.titles)
        return copies

    def take_out(self, area):
        for spot in self.spots_within(area):
            self.cells[area.sheet].pop(spot)

    def clear_area(self, area):
        refusal = self.refusal_of_areas([area])
        if refusal != DONE:
            return [refusal]
        many = len(self.spots_within(area))
        self.take_out(area)
        return [many]

    def set_name(self, name, told):
        if not is_name(name):
            return [NOT_WELL_MADE]
        if not told:
            return self.drop_name(tuple(name))
        try:
            reference = read_fixed_reference(told)
        except NotWellMade:
            return [NOT_WELL_MADE]
        if not leads_somewhere(reference, cell_of_names(), self.titles):
            return [NOT_WELL_MADE]
        return self.put_name(tuple(name), reference)

    def drop_name(self, name):
        if name not in self.names:
            return [NO_SUCH_NAME]
        self.names.pop(name)
        return [DONE]

    def put_name(self, name, reference):
        if name not in self.names and len(self.names) == MOST_NAMES:
            return [NO_ROOM]
        # A dict keeps a key where it first came: taken out first, the name comes last.
        self.names.pop(name, None)
        self.names[name] = reference
        return [DONE]

    def look_at(self, sheet, row, column):
        refusal = self.refusal_of_areas([cell_at(sheet, row, column)])
        if refusal != DONE:
            return [refusal]
        content = self.cells[sheet].get((row, column))
        if content is None:
            return [NOTHING_STANDS]
        return [SOMETHING_STANDS] + content.as_numbers()

    def list_cells(self, area):
        refusal = self.refusal_of_areas([area])
        if refusal != DONE:
            return [refusal]
        spots = sorted(self.spots_within(area))
        listed = [len(spots)]
        for spot in spots[:MOST_LISTED]:
            listed.extend(spot)
        return listed

    def list_names(self):
        listed = [len(self.names)]
        for name, reference in self.names.items():
            listed.append(len(name))
            listed.extend(name)
            listed.extend(reference)
        return listed

    def list_sheets(self):
        listed = [len(self.titles)]
        for sheet in sorted(self.titles):
            listed.extend([sheet, len(self.titles[sheet])])
            listed.extend(self.titles[sheet])
        return listed
