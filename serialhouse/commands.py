"""Commands of the console: strings of words with single blanks between them, read by their forms."""

from serialhouse.bookpages import is_name
from serialhouse.errors import BadText
from serialhouse.formats import Format
from serialhouse.numerals import integer_of
from serialhouse.tosses import are_tosses
from serialhouse.words import is_word

# The form of what stands behind each command, a sign for each part: n a name, N one that has to be kept, T the text of
# a format (it alone has blanks), W a word, S tosses, L letters, and numbers, which the signs of LEASTS and MOSTS tell.
FORMS = {
    "keep": "nT", "both": "nNN", "either": "nNN", "without": "nNN", "drop": "N", "undo": "", "count": "Nc",
    "left": "Nlu", "rule": "N", "word": "Nk", "number": "NW", "rows": "NN", "lead": "NN", "into": "NN", "toss": "NdS",
    "mean": "Nd", "round": "Nr", "growth": "N", "shares": "NL"}
LEASTS = {"c": 0, "l": 0, "u": 1, "k": 0, "d": 0, "r": 1}
MOSTS = {"c": 300, "l": 10 ** 30, "u": 10 ** 6, "k": 10 ** 60 - 1, "d": 120, "r": 1000}
MOST_LETTERS = 120
MOST_TOSSES = 400


def command_read(thing):
    """The name of a command and the list of its parts, for any value; None if it has not the form of one."""
    if not isinstance(thing, str) or "\n" in thing:
        return None
    words = thing.split(" ")
    name = words[0]
    if name not in FORMS:
        return None
    signs = FORMS[name]
    if name == "keep":
        words = thing.split(" ", 2)
    if len(words) != len(signs) + 1:
        return None
    parts = [part_read(sign, word) for sign, word in zip(signs, words[1:])]
    return None if any([part is None for part in parts]) else (name, parts)


def part_read(sign, word):
    """What a part of a command tells, by the sign of its form; None if it is not as told."""
    if sign == "n" or sign == "N":
        return word if is_name(word) else None
    if sign == "T":
        return text_read(word)
    if sign == "W":
        return word_read(word)
    if sign == "S":
        return tosses_read(word)
    if sign == "L":
        return word
    return number_read(word, LEASTS[sign], MOSTS[sign])


def text_read(text):
    """The format that a text tells, ; standing for each line feed."""
    try:
        return Format.read(text.replace(";", "\n"))
    except BadText:
        return None


def word_read(word):
    """The word that is told, - standing for the empty one."""
    if word == "-":
        return ""
    return word if word != "" and is_word(word) and len(word) <= MOST_LETTERS else None


def tosses_read(word):
    """The row of tosses that is told, - standing for none."""
    if word == "-":
        return ""
    return word if word != "" and are_tosses(word) and len(word) <= MOST_TOSSES else None


def number_read(word, low, high):
    """The number from low to high that is told."""
    number = integer_of(word)
    return number if number is not None and low <= number <= high else None
