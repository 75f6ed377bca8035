"""Where a fill puts what stands in its first area, the source: over and over in its second, the target."""

from cellsheets.limits import ALONG_COLUMNS, ALONG_ROWS


def places_filled(way, place, source, target):
    """The target's places along the way that get what stands in that place of the source."""
    first = target.first_place(way) + place - source.first_place(way)
    step = source.last_place(way) - source.first_place(way) + 1
    return list(range(first, target.last_place(way) + 1, step))


def rows_filled(spot, source, target):
    return places_filled(ALONG_ROWS, spot[0], source, target)


def columns_filled(spot, source, target):
    return places_filled(ALONG_COLUMNS, spot[1], source, target)


def count_filled(spots, source, target):
    """How many cells get what stands in these of the source."""
    return sum([len(rows_filled(spot, source, target)) * len(columns_filled(spot, source, target)) for spot in spots])


def spots_filled(spot, source, target):
    columns = columns_filled(spot, source, target)
    spots = []
    for row in rows_filled(spot, source, target):
        spots.extend([(row, column) for column in columns])
    return spots
