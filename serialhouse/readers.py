"""Readers: words of a code that is read in one way, known as soon as they can be, letter by letter."""

from serialhouse.codes import begun_place, code_readings, read
from serialhouse.errors import NoMessage, NothingToUndo, TwoWays
from serialhouse.rests import is_one_way, judge_code


class Reader:
    """Takes letters; sure are the numbers of the words that are known, left is what was taken behind them."""

    def __init__(self, code):
        if not is_one_way(code):
            raise TwoWays(judge_code(code))
        self.code = code
        self.sure = ()
        self.left = ""
        self._taken = ""

    def take(self, word):
        """Takes a word, all of it or none; the numbers that came to be sure by it. Raises NoMessage."""
        text = self._taken + word
        place = begun_place(self.code, text)
        if place < len(text):
            raise NoMessage(place)
        many = len(self.sure)
        self._put(text)
        return self.sure[many:]

    def close(self):
        """The message that is written as left; raises NoMessage."""
        if code_readings(self.code, self.left) == 0:
            raise NoMessage(len(self._taken))
        return read(self.code, self.left)

    def undo(self):
        """Takes the last letter back; raises NothingToUndo."""
        if self._taken == "":
            raise NothingToUndo()
        self._put(self._taken[:-1])

    def _put(self, text):
        """Tells what is sure of a text, and what is left."""
        self._taken = text
        self.sure, self.left = sure_of(self.code, text)


def sure_of(code, text):
    """The numbers of the words with which all messages begin that go on from a text, and what is behind them."""
    goes_on = going_on(code, text)
    sure = []
    place = 0
    while place < len(text):
        standing = [number for number in range(len(code.words)) if can_stand(code, text, goes_on, place, number)]
        behind = place + len(code.words[standing[0]])
        if len(standing) > 1 or behind > len(text):
            break
        sure.append(standing[0])
        place = behind
    return tuple(sure), text[place:]


def going_on(code, text):
    """For each place of a text, and behind it, whether some message begins, when written, with what is behind it."""
    goes_on = [False] * len(text) + [True]
    for place in range(len(text) - 1, -1, -1):
        goes_on[place] = any([
            can_stand(code, text, goes_on, place, number) for number in range(len(code.words))])
    return goes_on


def can_stand(code, text, goes_on, place, number):
    """Whether a word of a code can stand at a place of a text, perhaps going on behind its end."""
    word = code.words[number]
    behind = place + len(word)
    if behind > len(text):
        return word.startswith(text[place:])
    return text[place:behind] == word and goes_on[behind]
