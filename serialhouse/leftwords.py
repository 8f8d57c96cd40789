"""The words of a book's format that were never issued: how many, the first one, and which one is drawn.

They depend on words alone, so the least format with the same words serves, however many states there are.
"""

from serialhouse.bookpages import now_of
from serialhouse.layers import Layers
from serialhouse.leastforms import least_form
from serialhouse.numbering import has_number
from serialhouse.tosses import are_tosses, draw
from serialhouse.values import can_be_told


def many_left_of(book, length):
    """How many words of a length are left; none of any value that is no length."""
    if not can_be_told(length):
        return 0
    return Layers(least_form(now_of(book))).count_of(length) - len(issued_of(book, length))


def issued_of(book, length):
    """The issued words of a length that the format has."""
    return [word for word in book.words if len(word) == length and now_of(book).has(word)]


def word_left(book, length, index):
    """The word of a length that is left with so many lesser ones left."""
    layers = Layers(least_form(now_of(book)))
    for place in sorted([layers.lesser(word) for word in issued_of(book, length)]):
        if place <= index:
            index += 1
    return layers.word_of(length, index)


def drawn_by_all(many, tosses):
    """What is drawn among so many things by all of some tosses; None if nothing, or by any value that is no row."""
    if not are_tosses(tosses):
        return None
    drawn = draw(many, tosses)
    return drawn[1] if drawn[0] == "drawn" and drawn[2] == len(tosses) else None


def first_left(book):
    """The first word that is left, None if there is none."""
    form = least_form(now_of(book))
    layers = Layers(form)
    taken = {layers.shorter(len(word)) + layers.lesser(word): True for word in book.words if form.has(word)}
    number = 0
    while number in taken:
        number += 1
    if not has_number(form, number):
        return None
    # Endlessly many words are never more than so many letters apart as there are states.
    length, index = layers.place_of(number, form.size * (number + 2))
    return layers.word_of(length, index)
