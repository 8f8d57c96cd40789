"""Codes: words by which messages are written, and how these are read."""

from serialhouse.errors import BadCode, NoMessage
from serialhouse.leastforms import least_of
from serialhouse.values import is_ascending, is_below
from serialhouse.words import is_letter


class Code:
    """One to three letters, and different nonempty words of them; a message is a tuple of numbers of words."""

    def __init__(self, letters, words):
        if not are_letters(letters):
            raise BadCode("letters")
        if not are_words(letters, words):
            raise BadCode("words")
        self.letters = letters
        self.words = words

    def __len__(self):
        return len(self.words)

    def __eq__(self, other):
        return isinstance(other, Code) and self.letters == other.letters and self.words == other.words


def are_letters(thing):
    """Whether any value is an ascending string of one to three letters."""
    if not isinstance(thing, str) or not 1 <= len(thing) <= 3:
        return False
    return all([is_letter(sign) for sign in thing]) and is_ascending(thing)


def are_words(letters, thing):
    """Whether any value is a tuple of different nonempty words of some letters."""
    if not isinstance(thing, tuple) or not all([is_nonempty_of(letters, word) for word in thing]):
        return False
    return len(set(thing)) == len(thing)


def is_nonempty_of(letters, thing):
    """Whether any value is a nonempty string of some letters."""
    return isinstance(thing, str) and thing != "" and all([sign in letters for sign in thing])


def is_message(code, thing):
    """Whether any value is a message: a tuple of numbers of words."""
    return isinstance(thing, tuple) and all([is_below(number, len(code.words)) for number in thing])


def written(code, message):
    """The words of a message, one behind the other."""
    return "".join([code.words[number] for number in message])


def code_readings(code, word):
    """How many messages are written as a word."""
    ways = [1]
    for place in range(1, len(word) + 1):
        ways.append(sum([ways[place - len(told)] for told in code.words if word[:place].endswith(told)]))
    return ways[-1]


def read(code, word):
    """The first message that is written as a word; raises NoMessage."""
    whole = whole_places(code, word)
    if not whole[0]:
        raise NoMessage(begun_place(code, word))
    place = 0
    message = []
    while place < len(word):
        number = 0
        while not is_whole_behind(code, word, whole, place, number):
            number += 1
        message.append(number)
        place += len(code.words[number])
    return tuple(message)


def whole_places(code, word):
    """For each place of a word, and behind it, whether a message is written as what is behind this place."""
    whole = [False] * len(word) + [True]
    for place in range(len(word) - 1, -1, -1):
        whole[place] = any([
            is_whole_behind(code, word, whole, place, number) for number in range(len(code.words))])
    return whole


def is_whole_behind(code, word, whole, place, number):
    """Whether a word of a code stands at a place, and a message behind it."""
    behind = place + len(code.words[number])
    return word[place:behind] == code.words[number] and whole[behind]


def begun_place(code, word):
    """The greatest length of a beginning of a word with which some written message begins."""
    best = 0
    met = [True] + [False] * len(word)
    for place in range(len(word) + 1):
        if not met[place]:
            continue
        for told in code.words:
            many = 0
            while many < len(told) and word[place + many:place + many + 1] == told[many]:
                many += 1
            best = max(best, place + many)
            if many == len(told):
                met[place + many] = True
    return best


def form_of(code):
    """The least format of all written messages."""
    begun = {word[:many]: True for word in code.words for many in range(1, len(word))}
    whole = {word: True for word in code.words}
    return least_of(
        ("",), code.letters, lambda key, letter: step_of(begun, whole, key, letter),
        lambda key: "" in key)


def step_of(begun, whole, key, letter):
    """Where a letter leads from beginnings of words that may have been written last, None if nowhere."""
    longer = [beginning + letter for beginning in key]
    onward = [beginning for beginning in longer if beginning in begun]
    if any([beginning in whole for beginning in longer]):
        onward.append("")
    return tuple(sorted(onward)) if onward else None


def message_count(code, length):
    """How many messages have a length when written."""
    ways = [1]
    for place in range(1, length + 1):
        ways.append(sum([ways[place - len(word)] for word in code.words if len(word) <= place]))
    return ways[length]
