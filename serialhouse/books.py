"""The bureau: books whose formats are edited while words of them are issued."""

from serialhouse.bookpages import (
    Book, edited, is_in_force, is_issued, is_name, now_of, with_form, with_letters, with_void, with_word,
    words_in_force)
from serialhouse.deeds import do_deed, is_deed
from serialhouse.errors import (
    BadDeed, BadName, BadSign, IssuedBefore, NameTaken, NoBook, NotDrawn, NothingToUndo, NotIn, NotInForce, NoWordLeft,
    SerialError, StillInForce)
from serialhouse.leastforms import least_form
from serialhouse.leftwords import drawn_by_all, first_left, many_left_of, word_left
from serialhouse.numbering import number_of

SIGNS = ("|", "&", "-")


class Bureau:
    """Books by their names; what was done is kept as deeds, each with the book as it was ahead of it."""

    def __init__(self):
        self._pages = {}
        self._past = []

    def start(self, name, form):
        """A new book, whose first edition is a format as it is; raises BadName, then NameTaken."""
        if not is_name(name):
            raise BadName(name)
        if name in self._pages:
            raise NameTaken(name)
        self._put(("start", name, str(form)), Book((form,), (), ()))

    def issue_next(self, name):
        """Issues the first word that was never issued, and tells it; raises NoWordLeft."""
        book = self._book(name)
        word = first_left(book)
        if word is None:
            raise NoWordLeft(name)
        self._put(("next", name), with_word(book, word))
        return word

    def issue(self, name, word):
        """Issues any value that is a word of the format; raises NotIn, then IssuedBefore."""
        book = self._book(name)
        if not now_of(book).has(word):
            raise NotIn(word)
        if is_issued(book, word):
            raise IssuedBefore(word)
        self._put(("word", name, word), with_word(book, word))

    def issue_drawn(self, name, length, tosses):
        """Issues a word of a length that is drawn by all of some tosses, and tells it; raises NoWordLeft, NotDrawn."""
        book = self._book(name)
        many = many_left_of(book, length)
        if many == 0:
            raise NoWordLeft(name)
        index = drawn_by_all(many, tosses)
        if index is None:
            raise NotDrawn(tosses)
        word = word_left(book, length, index)
        self._put(("drawn", name, length, tosses), with_word(book, word))
        return word

    def void(self, name, word):
        """Voids a word; raises NotInForce for any value that is none in force."""
        book = self._book(name)
        if not is_in_force(book, word):
            raise NotInForce(word)
        self._put(("void", name, word), with_void(book, word))

    def edit(self, name, sign, form):
        """Joins the format of a book with another one; raises BadSign for any other value, then StillInForce."""
        book = self._book(name)
        if sign not in SIGNS:
            raise BadSign(sign)
        new = edited(book, sign, form)
        for word in words_in_force(book):
            if not new.has(word):
                raise StillInForce(word)
        self._put(("edit", name, sign, str(form)), with_form(book, new))

    def put_letters(self, name, pairs):
        """Exchanges letters in the format and in all issued words; raises BadLetters for any value."""
        self._put(("letters", name, pairs), with_letters(self._book(name), pairs))

    def undo(self):
        """Takes the last deed back; raises NothingToUndo."""
        if not self._past:
            raise NothingToUndo()
        deed, book = self._past.pop()
        if book is None:
            del self._pages[deed[1]]
        else:
            self._pages[deed[1]] = book

    def log(self):
        """The tuple of the deeds that were not taken back."""
        return tuple([deed for deed, _ in self._past])

    @classmethod
    def of(cls, log):
        """The bureau that does the deeds of any value; raises BadDeed with the number of the first that cannot be."""
        if not isinstance(log, tuple):
            raise BadDeed(0)
        bureau = cls()
        for number, deed in enumerate(log):
            if not is_deed(deed):
                raise BadDeed(number)
            try:
                do_deed(bureau, deed)
            except SerialError:
                raise BadDeed(number) from None
        return bureau

    def books(self):
        """The tuple of the names, ascending."""
        return tuple(sorted(list(self._pages)))

    def form_now(self, name):
        """The format of a book."""
        return now_of(self._book(name))

    def editions(self, name):
        """The tuple of all editions of a book."""
        return self._book(name).forms

    def all_issued(self, name):
        """The tuple of all issued words, as they came."""
        return self._book(name).words

    def in_force(self, name):
        """The tuple of the words in force, in order."""
        return words_in_force(self._book(name))

    def number_now(self, name, word):
        """The number of a word in force; raises NotInForce for any value that is none."""
        book = self._book(name)
        if not is_in_force(book, word):
            raise NotInForce(word)
        return number_of(least_form(now_of(book)), word)

    def standing(self, name, word):
        """What any value is in a book: "force", "void", "free" or "none"."""
        book = self._book(name)
        if is_issued(book, word):
            return "void" if word in book.voids else "force"
        return "free" if now_of(book).has(word) else "none"

    def many_left(self, name, length):
        """How many words of a length were never issued."""
        return many_left_of(self._book(name), length)

    def __eq__(self, other):
        return isinstance(other, Bureau) and self._pages == other._pages

    def __len__(self):
        return len(self._past)

    def _book(self, name):
        """The book of a name; raises NoBook for any value that is the name of none."""
        if not is_name(name) or name not in self._pages:
            raise NoBook(name)
        return self._pages[name]

    def _put(self, deed, book):
        """Puts a book in its place, by a deed that is done now."""
        self._past.append((deed, self._pages.get(deed[1])))
        self._pages[deed[1]] = book
