"""Contents of cells: values and formulas, read from the numbers that tell them.

The read_ functions go over what they check; what they went over is kept as it was told.
"""

from cellsheets.limits import (
    DEEPEST,
    LONGEST_SIDE,
    LONGEST_TEXT,
    LONGEST_TITLE,
    MOST_ARGUMENTS,
    MOST_PARTS,
    MOST_SHEETS,
    NUMBERS_END,
)
from cellsheets.reading import NotWellMade, Reader
from cellsheets.texts import read_name, read_utf8

VALUE = 0
FORMULA = 1

EMPTY = 0
ARRAY = 8


class Content:
    """A value has one part, the value. A formula's parts are the numbers of each formula in it but for those that
    stand in that one, in the order in which they are told: one behind another they are the formula.
    It is never changed."""

    def __init__(self, kind, parts):
        self.kind = kind
        self.parts = parts

    def is_empty(self):
        return self.kind == VALUE and self.parts[0][0] == EMPTY

    def as_numbers(self):
        numbers = [self.kind]
        for part in self.parts:
            numbers.extend(part)
        return numbers


def read_nothing(reader):
    pass


def read_number(reader):
    reader.take_within(1 - NUMBERS_END, NUMBERS_END - 1)


def read_text(reader):
    read_utf8(reader, 0, LONGEST_TEXT)


def read_truth(reader):
    reader.take_within(0, 1)


def read_error(reader):
    reader.take_within(1, 8)


VALUE_READERS = (read_nothing, read_number, read_text, read_truth, read_error)


def read_value(reader, least_kind):
    kind = reader.take_within(least_kind, len(VALUE_READERS) - 1)
    read = VALUE_READERS[kind]
    read(reader)


def read_full_value(reader):
    read_value(reader, EMPTY + 1)


def read_sheet(reader):
    reader.take_within(0, MOST_SHEETS)


def read_spot(reader):
    reader.take_within(0, 1)
    reader.take()
    reader.take_within(0, 1)
    reader.take()


# Each of these reads a formula of one kind, behind its kind, and answers how many formulas stand in it, right behind.


def read_constant(reader):
    read_full_value(reader)
    return 0


def read_cell_reference(reader):
    read_sheet(reader)
    read_spot(reader)
    return 0


def read_area_reference(reader):
    read_sheet(reader)
    read_spot(reader)
    read_spot(reader)
    return 0


def read_use_of_name(reader):
    read_name(reader)
    return 0


def read_table_column(reader):
    read_name(reader)
    # Of a column's title the document asks for UTF-8 alone: bytes below 32 are kept out of sheets' titles only.
    read_utf8(reader, 1, LONGEST_TITLE)
    reader.take_within(0, 9)
    return 0


def read_operation_on_one(reader):
    reader.take_within(20, 22)
    return 1


def read_operation_on_two(reader):
    reader.take_within(1, 12)
    return 2


def read_function(reader):
    read_name(reader)
    return reader.take_within(0, MOST_ARGUMENTS)


def read_array(reader):
    rows = reader.take_within(1, LONGEST_SIDE)
    columns = reader.take_within(1, LONGEST_SIDE)
    for index in range(rows * columns):
        read_full_value(reader)
    return 0


FORMULA_READERS = (
    read_constant,
    read_cell_reference,
    read_area_reference,
    read_use_of_name,
    read_table_column,
    read_operation_on_one,
    read_operation_on_two,
    read_function,
    read_array,
)


def parts_counted(part):
    return 1 + part[1] * part[2] if part[0] == ARRAY else 1


def read_formula(reader):
    """The formula's parts. A loop, as what is told may nest deeper than it should."""
    parts = []
    counted = 0
    # How many formulas are still to come at each depth, from the outermost on.
    missing = [1]
    while missing:
        if missing[-1] == 0:
            missing.pop()
            continue
        missing[-1] -= 1
        start = reader.position
        read = FORMULA_READERS[reader.take_within(0, len(FORMULA_READERS) - 1)]
        inner = read(reader)
        part = tuple(reader.taken_since(start))
        parts.append(part)
        counted += parts_counted(part)
        if counted > MOST_PARTS or len(missing) > DEEPEST:
            raise NotWellMade("a formula too large or too deep")
        missing.append(inner)
    return parts


def read_content(told):
    reader = Reader(told)
    kind = reader.take_within(VALUE, FORMULA)
    if kind == VALUE:
        read_value(reader, EMPTY)
        parts = [tuple(reader.taken_since(1))]
    else:
        parts = read_formula(reader)
    reader.expect_end()
    return Content(kind, parts)
