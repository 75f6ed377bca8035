"""The program's one entry: answers a list of calls on one workbook."""

from cellsheets.areas import Area
from cellsheets.book import Workbook
from cellsheets.reading import Reader

# Each of these takes what its call is told by from the reader, does it, and gives back the answer's numbers.


def call_new(book, reader):
    return book.start_anew()


def call_sheet(book, reader):
    return book.add_sheet(reader.take_row())


def call_gone(book, reader):
    return book.drop_sheet(reader.take())


def call_set(book, reader):
    place = reader.take_many(3)
    return book.set_cell(place[0], place[1], place[2], reader.take_row())


def call_insert(book, reader):
    told = reader.take_many(6)
    return book.insert_places(told[0], told[1], told[2], told[3], told[4], told[5])


def call_delete(book, reader):
    told = reader.take_many(6)
    return book.delete_places(told[0], told[1], told[2], told[3], told[4], told[5])


def take_area(reader):
    told = reader.take_many(5)
    return Area(told[0], told[1], told[2], told[3], told[4])


def call_move(book, reader):
    source = take_area(reader)
    target = reader.take_many(3)
    return book.move_area(source, target[0], target[1], target[2])


def call_fill(book, reader):
    source = take_area(reader)
    return book.fill_area(source, take_area(reader))


def call_clear(book, reader):
    return book.clear_area(take_area(reader))


def call_name(book, reader):
    name = reader.take_row()
    return book.set_name(name, reader.take_row())


def call_look(book, reader):
    place = reader.take_many(3)
    return book.look_at(place[0], place[1], place[2])


def call_cells(book, reader):
    return book.list_cells(take_area(reader))


def call_names(book, reader):
    return book.list_names()


def call_sheets(book, reader):
    return book.list_sheets()


CALLS = (
    call_new,
    call_sheet,
    call_gone,
    call_set,
    call_insert,
    call_delete,
    call_move,
    call_fill,
    call_clear,
    call_name,
    call_look,
    call_cells,
    call_names,
    call_sheets,
)


def answer_next(book, reader):
    """Does the reader's next call on the book: the numbers of its answer."""
    call = CALLS[reader.take()]
    return call(book, reader)


def answers(calls):
    book = Workbook()
    reader = Reader(calls)
    told = []
    while not reader.is_at_end():
        answer = answer_next(book, reader)
        told.append(len(answer))
        told.extend(answer)
    return told
