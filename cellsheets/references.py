"""References: where they lead to, how they are said anew behind a change, and what a copy makes of them.

A reference is a formula's part: its kind, its sheet, then of its spot, or of each of its two spots, the row's
coordinate and the column's, two numbers each. Its formula's own cell is told as the area that has it alone.
"""

from cellsheets.areas import Area
from cellsheets.contents import FORMULA, Content, read_formula
from cellsheets.reading import NotWellMade, Reader

CELL_REFERENCE = 1
AREA_REFERENCE = 2

OWN_SHEET = 0
FIXED = 1

# Where in a reference of each kind the rows' and the columns' coordinates are, spot by spot.
ROWS = ((), (2,), (2, 6))
COLUMNS = ((), (4,), (4, 8))

# The error that a reference to what is gone, or to nowhere, becomes.
LOST = (0, 4, 3)


def is_reference(part):
    return part[0] == CELL_REFERENCE or part[0] == AREA_REFERENCE


def is_fixed(part):
    return all([part[index] == FIXED for index in ROWS[part[0]] + COLUMNS[part[0]]])


def read_fixed_reference(told):
    """A reference that leads to the same from wherever it stands: names stand for no other."""
    reader = Reader(told)
    part = read_formula(reader)[0]
    reader.expect_end()
    if not is_reference(part) or part[1] == OWN_SHEET or not is_fixed(part):
        raise NotWellMade("no reference of a name")
    return part


def places_at(part, indexes, own_place):
    """The places that the coordinates at these indexes lead to."""
    return [part[index + 1] if part[index] == FIXED else own_place + part[index + 1] for index in indexes]


def rows_of(part, own):
    return places_at(part, ROWS[part[0]], own.first_row)


def columns_of(part, own):
    return places_at(part, COLUMNS[part[0]], own.first_column)


def area_between(part, own, rows, columns):
    sheet = own.sheet if part[1] == OWN_SHEET else part[1] - 1
    return Area(sheet, min(rows), max(rows), min(columns), max(columns))


def leads_somewhere(part, own, sheets):
    area = area_between(part, own, rows_of(part, own), columns_of(part, own))
    return area.sheet in sheets and area.is_on_sheet()


def all_lead_somewhere(content, own, sheets):
    if content.kind != FORMULA:
        return True
    return all([leads_somewhere(part, own, sheets) for part in content.parts if is_reference(part)])


def tell_places(told, indexes, places, own_place):
    """Makes the coordinates at these indexes lead to these places."""
    for index, place in zip(indexes, places):
        told[index + 1] = place if told[index] == FIXED else place - own_place


def in_order_of(before, first, last):
    return [last, first] if before[0] > before[-1] else [first, last]


def said_anew(part, own, own_after, change):
    """The reference as it is told behind the change, its formula's own cell being own_after then."""
    rows = rows_of(part, own)
    columns = columns_of(part, own)
    area = change.area_after(area_between(part, own, rows, columns))
    if area is None:
        return LOST
    told = list(part)
    if part[1] != OWN_SHEET or area.sheet != own_after.sheet:
        told[1] = area.sheet + 1
    rows_after = in_order_of(rows, area.first_row, area.last_row)
    tell_places(told, ROWS[part[0]], rows_after, own_after.first_row)
    columns_after = in_order_of(columns, area.first_column, area.last_column)
    tell_places(told, COLUMNS[part[0]], columns_after, own_after.first_column)
    return tuple(told)


def part_anew(part, own, own_after, change):
    return said_anew(part, own, own_after, change) if is_reference(part) else part


def content_anew(content, own, own_after, change):
    if content.kind != FORMULA:
        return content
    return Content(FORMULA, [part_anew(part, own, own_after, change) for part in content.parts])


def part_copied(part, own, sheets):
    return LOST if is_reference(part) and not leads_somewhere(part, own, sheets) else part


def content_copied(content, own, sheets):
    """The content as it is told when it is copied into the cell own: what it refers to is as far off as before."""
    if all_lead_somewhere(content, own, sheets):
        return content
    return Content(FORMULA, [part_copied(part, own, sheets) for part in content.parts])
