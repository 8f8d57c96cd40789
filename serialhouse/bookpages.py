"""A book as it is at one time; whatever is done makes another one of it."""

from serialhouse.joining import both, either, exchanged_letters, renamed, without
from serialhouse.values import is_below
from serialhouse.words import is_word


class Book:
    """The editions of a book, its issued words as they came, and the voided ones of these in order."""

    def __init__(self, forms, words, voids):
        self.forms = forms
        self.words = words
        self.voids = voids

    def __eq__(self, other):
        return (isinstance(other, Book) and self.forms == other.forms
                and self.words == other.words and self.voids == other.voids)


def now_of(book):
    """The format of a book: its last edition."""
    return book.forms[-1]


def is_name(thing):
    """Whether any value is a name: a word of one to eight letters."""
    return is_word(thing) and is_below(len(thing) - 1, 8)


def is_issued(book, thing):
    """Whether any value is a word that was issued."""
    return thing in book.words


def is_in_force(book, thing):
    """Whether any value is a word in force."""
    return is_issued(book, thing) and thing not in book.voids


def words_in_force(book):
    """The tuple of the words in force, in order."""
    return in_order([word for word in book.words if word not in book.voids])


def in_order(words):
    """The tuple of some words, in order."""
    return tuple([word for _, word in sorted([(len(word), word) for word in words])])


def with_word(book, word):
    """A book with one more word issued."""
    return Book(book.forms, book.words + (word,), book.voids)


def with_void(book, word):
    """A book with one more word voided."""
    return Book(book.forms, book.words, in_order(book.voids + (word,)))


def with_form(book, form):
    """A book with one more edition."""
    return Book(book.forms + (form,), book.words, book.voids)


def edited(book, sign, form):
    """The format of a book joined with another one, by one of the signs of edits."""
    if sign == "|":
        return either(now_of(book), form)
    if sign == "&":
        return both(now_of(book), form)
    return without(now_of(book), form)


def with_letters(book, pairs):
    """A book with other letters in its format and in all issued words; raises BadLetters for any value."""
    letters = exchanged_letters(now_of(book).letters + "".join(book.words), pairs)
    words = tuple([with_letters_put(word, letters) for word in book.words])
    voids = in_order([with_letters_put(word, letters) for word in book.voids])
    return Book(book.forms + (renamed(now_of(book), pairs),), words, voids)


def with_letters_put(word, letters):
    """A word with each letter exchanged, by a dict."""
    return "".join([letters[letter] for letter in word])
