"""Words by their numbers: how many words of a format are ahead, and which word has a number."""

from serialhouse.errors import NotIn, TooLong
from serialhouse.farlengths import far_length
from serialhouse.layers import Layers
from serialhouse.usefulmoves import is_endless
from serialhouse.words import is_ahead

MOST = 200


def number_of(form, word):
    """The number of a word of a format; raises NotIn for any value that is none."""
    if not form.has(word):
        raise NotIn(word)
    return how_many_ahead(form, word)


def how_many_ahead(form, text):
    """How many words of a format are ahead of a text."""
    layers = Layers(form)
    return layers.shorter(len(text)) + layers.lesser(text)


def many_to(form, length):
    """How many words of a format have at most so many letters."""
    return Layers(form).shorter(length + 1)


def how_many(form):
    """How many words a format has, None if it has endlessly many."""
    return None if is_endless(form) else many_to(form, form.size)


def has_number(form, number):
    """Whether a word of a format has a number."""
    total = how_many(form)
    return number >= 0 and (total is None or number < total)


def word_at(form, number):
    """The word with a number, None if there is none; raises TooLong."""
    return told_word(Layers(form), number) if has_number(form, number) else None


def told_word(layers, number):
    """The word with a number that a word has, by the layers of its format; raises TooLong."""
    place = layers.place_of(number, MOST)
    if place is None:
        raise TooLong(MOST)
    return layers.word_of(place[0], place[1])


def words_at(form, number, many):
    """The tuple of so many words from a number on, or fewer if there are no more; raises TooLong."""
    total = how_many(form)
    layers = Layers(form)
    behind = number + many if total is None else min(number + many, total)
    return tuple([told_word(layers, each) for each in range(number, behind)])


def length_at(form, number):
    """How many letters the word with a number has, however many; None if there is none."""
    if not has_number(form, number):
        return None
    place = Layers(form).place_of(number, max(MOST, form.size))
    return far_length(form, number) if place is None else place[0]


def step(form, word, by):
    """The word so many steps behind a word, None if there is none; raises NotIn, then TooLong."""
    return word_at(form, number_of(form, word) + by)


def between(form, one, other):
    """How many words of a format are strictly between two texts, whichever is ahead."""
    if one == other:
        return 0
    if is_ahead(other, one):
        one, other = other, one
    return how_many_ahead(form, other) - many_not_behind(form, one)


def many_not_behind(form, text):
    """How many words of a format are ahead of a text, or this text."""
    return how_many_ahead(form, text) + (1 if form.has(text) else 0)


def first_from(form, text):
    """The first word of a format that is not ahead of a text, None if there is none; raises TooLong."""
    return word_at(form, how_many_ahead(form, text))


def last_to(form, text):
    """The last word of a format that is not behind a text, None if there is none; raises TooLong."""
    return word_at(form, many_not_behind(form, text) - 1)
