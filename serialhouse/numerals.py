"""Integers from 0 on as Python writes them, of any length.

Python's own str and int stop at 4300 figures, but formats may have any size: here they get 64 figures at a time.
"""

LIMIT = 10 ** 64


def figures_of(number):
    """The figures of an integer from 0 on."""
    parts = []
    while number >= LIMIT:
        number, low = divmod(number, LIMIT)
        parts.append(str(low).zfill(64))
    return "".join([str(number)] + parts[::-1])


def integer_of(text):
    """The integer from 0 on that a string is the figures of, None if it is of none."""
    if not text.isascii() or not text.isdigit():
        return None
    if text[0] == "0" and text != "0":
        return None
    ahead = len(text) % 64
    number = int("0" + text[:ahead])
    for at in range(ahead, len(text), 64):
        number = number * LIMIT + int(text[at:at + 64])
    return number
