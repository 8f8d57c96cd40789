"""Parts of findings: texts of formats and sheets read, numbers that are not beyond what can be told."""

from serialhouse.errors import BadText
from serialhouse.formats import Format
from serialhouse.sheets import Sheet

# Formats with so many states more than moves are beyond all limits: hardly a state of them is led to.
MOST_IDLE = 1000


def name_of_finding(thing):
    """The first part of any value that is a tuple, if this is a string; otherwise the empty string."""
    if not isinstance(thing, tuple) or not thing or not isinstance(thing[0], str):
        return ""
    return thing[0]


def parts_read(kinds, parts):
    """The list of parts of a finding, read by their kinds, a sign each: F for a format, S for a sheet, - for any value.

    It is None if they are not so many, or one of them is not the text that it should be.
    """
    if len(kinds) != len(parts):
        return None
    told = []
    for kind, part in zip(kinds, parts):
        if kind == "-":
            told.append(part)
            continue
        read = form_read(part) if kind == "F" else sheet_read(part)
        if read is None or read.size > len(read.moves) + MOST_IDLE:
            return None
        told.append(read)
    return told


def form_read(text):
    """The format that any value is the text of, None if it is none."""
    try:
        return Format.read(text)
    except BadText:
        return None


def sheet_read(text):
    """The sheet that any value is the text of, None if it is none."""
    try:
        return Sheet.read(text)
    except BadText:
        return None
