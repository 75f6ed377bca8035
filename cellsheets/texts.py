"""Titles, names and texts, as bytes."""

from cellsheets.limits import LONGEST_NAME, LONGEST_TITLE
from cellsheets.reading import NotWellMade
from cellsheets.utf8 import is_utf8


def is_title(octets):
    """Whether a sheet may have that title."""
    if not 1 <= len(octets) <= LONGEST_TITLE:
        return False
    return min(octets) >= 32 and is_utf8(octets)


def may_begin_name(octet):
    return ord("A") <= octet <= ord("Z") or octet == ord("_")


def may_be_in_name(octet):
    return may_begin_name(octet) or ord("0") <= octet <= ord("9") or octet == ord(".")


def is_name(octets):
    if not 1 <= len(octets) <= LONGEST_NAME:
        return False
    return may_begin_name(octets[0]) and all([may_be_in_name(octet) for octet in octets])


def read_name(reader):
    if not is_name(reader.take_row_within(1, LONGEST_NAME)):
        raise NotWellMade("not a name")


def read_utf8(reader, shortest, longest):
    if not is_utf8(reader.take_row_within(shortest, longest)):
        raise NotWellMade("not UTF-8")
