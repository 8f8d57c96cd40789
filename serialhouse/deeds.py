"""Deeds: what is done with a bureau, as tuples; read from any value, and done."""

from serialhouse.formats import Format
from serialhouse.values import is_below

# How many parts the deeds have, by their first ones.
PARTS = {"start": 3, "next": 2, "word": 3, "drawn": 4, "void": 3, "edit": 4, "letters": 3}
MOST_LETTERS = 120


def is_deed(thing):
    """Whether any value has the form of a deed, as far as what it calls does not look at that."""
    if not isinstance(thing, tuple) or not thing or not isinstance(thing[0], str):
        return False
    if PARTS.get(thing[0]) != len(thing):
        return False
    return thing[0] != "drawn" or is_below(thing[2], MOST_LETTERS + 1)


def do_deed(bureau, deed):
    """Does a deed with a bureau; raises what its call raises, and BadText for a text of no format."""
    kind, name = deed[:2]
    if kind == "start":
        bureau.start(name, Format.read(deed[2]))
    elif kind == "next":
        bureau.issue_next(name)
    elif kind == "word":
        bureau.issue(name, deed[2])
    elif kind == "drawn":
        bureau.issue_drawn(name, deed[2], deed[3])
    elif kind == "void":
        bureau.void(name, deed[2])
    elif kind == "edit":
        bureau.edit(name, deed[2], Format.read(deed[3]))
    else:
        bureau.put_letters(name, deed[2])
