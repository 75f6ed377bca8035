"""Areas of cells. A cell is told as the area that has it alone: every change does to both the same."""

from cellsheets.limits import ALONG_ROWS, LAST_COLUMN, LAST_ROW


class Area:
    """Rows and columns of a sheet, from the first to the last of each. It is never changed."""

    def __init__(self, sheet, first_row, last_row, first_column, last_column):
        self.sheet = sheet
        self.first_row = first_row
        self.last_row = last_row
        self.first_column = first_column
        self.last_column = last_column

    def is_on_sheet(self):
        if not 0 <= self.first_row <= self.last_row <= LAST_ROW:
            return False
        return 0 <= self.first_column <= self.last_column <= LAST_COLUMN

    def has(self, row, column):
        return self.first_row <= row <= self.last_row and self.first_column <= column <= self.last_column

    def holds(self, area):
        """Whether that area lies in this one as a whole."""
        if self.sheet != area.sheet:
            return False
        if area.first_row < self.first_row or area.last_row > self.last_row:
            return False
        return self.first_column <= area.first_column and area.last_column <= self.last_column

    def shifted(self, sheet, down, right):
        return Area(
            sheet,
            self.first_row + down,
            self.last_row + down,
            self.first_column + right,
            self.last_column + right,
        )

    def first_place(self, way):
        return self.first_row if way == ALONG_ROWS else self.first_column

    def last_place(self, way):
        return self.last_row if way == ALONG_ROWS else self.last_column

    def with_places(self, way, first, last):
        if way == ALONG_ROWS:
            return Area(self.sheet, first, last, self.first_column, self.last_column)
        return Area(self.sheet, self.first_row, self.last_row, first, last)


def cell_at(sheet, row, column):
    return Area(sheet, row, row, column, column)


def band_of(sheet, way, lo, hi):
    """All places of the sheet along the way, of the others from lo to hi."""
    if way == ALONG_ROWS:
        return Area(sheet, 0, LAST_ROW, lo, hi)
    return Area(sheet, lo, hi, 0, LAST_COLUMN)
