"""The changes of a workbook: each says what an area becomes, or None if it is gone."""


class Shift:
    """Places put in or taken out within a band of a sheet, from a place on. The two kinds stand below."""

    def __init__(self, band, way, start, many):
        self.band = band
        self.way = way
        self.start = start
        self.many = many

    def area_after(self, area):
        if not self.band.holds(area):
            return area
        first = self.first_after(area.first_place(self.way))
        last = self.last_after(area.last_place(self.way))
        if first > last:
            return None
        return area.with_places(self.way, first, last)


class Insertion(Shift):
    def first_after(self, place):
        return place if place < self.start else place + self.many

    def last_after(self, place):
        # The cap also leaves the last before the first where all of the area would be beyond the sheet.
        return min(self.first_after(place), self.band.last_place(self.way))


class Deletion(Shift):
    # Where all of the area is taken out, its first comes out behind its last: start and start - 1.
    def first_after(self, place):
        return place if place < self.start else max(place - self.many, self.start)

    def last_after(self, place):
        return place if place < self.start else max(place - self.many, self.start - 1)


class Move:
    """The area source comes to the area target, which is as large."""

    def __init__(self, source, target):
        self.source = source
        self.target = target

    def area_after(self, area):
        if self.source.holds(area):
            down = self.target.first_row - self.source.first_row
            right = self.target.first_column - self.source.first_column
            return area.shifted(self.target.sheet, down, right)
        if self.target.holds(area):
            return None
        return area


class SheetLoss:
    def __init__(self, sheet):
        self.sheet = sheet

    def area_after(self, area):
        return None if area.sheet == self.sheet else area
