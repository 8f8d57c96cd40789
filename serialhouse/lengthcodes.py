"""Lengths of words of codes: shares, words that can be put in, and codes made for lengths."""

from serialhouse.codes import Code
from serialhouse.errors import HasBeginnings, TooMuch, TwoWays
from serialhouse.ratios import fraction
from serialhouse.rests import is_one_way, judge_code
from serialhouse.restwalks import first_rests


def power(base, exponent):
    """An integer to the power of another one, from 0 on."""
    product = 1
    for _ in range(exponent):
        product *= base
    return product


def share_of_lengths(many, lengths):
    """The sum of 1 divided by so many letters to the power of each of some lengths."""
    longest = max([0] + list(lengths))
    return fraction(sum([power(many, longest - length) for length in lengths]), power(many, longest))


def share_of(code):
    """The share of a code, whether it is read in one way or not."""
    return share_of_lengths(len(code.letters), [len(word) for word in code.words])


def is_complete(code):
    """Whether no further word can be put into a code; raises TwoWays if it is not read in one way."""
    if not is_one_way(code):
        raise TwoWays(judge_code(code))
    return share_of(code) == (1, 1)


def further_word(code):
    """The first word that can be put into a code without beginnings, None if there is none; raises HasBeginnings."""
    pairs = sorted([(one, other) for one, other, _ in first_rests(code)])
    if pairs:
        raise HasBeginnings(pairs[0][0], pairs[0][1])
    words = {word: True for word in code.words}
    begun = {word[:many]: True for word in code.words for many in range(len(word))}
    beginnings = [""]
    while beginnings:
        longer = [beginning + letter for beginning in beginnings for letter in code.letters]
        for word in longer:
            if word not in words and word not in begun:
                return word
        beginnings = [word for word in longer if word in begun]
    return None


def code_of(letters, lengths):
    """The code without beginnings whose words have some lengths, each the first one that can be; raises TooMuch."""
    share = share_of_lengths(len(letters), lengths)
    if share[0] > share[1]:
        raise TooMuch(share)
    words = [""] * len(lengths)
    # Words that are chosen so are in order, each the least one behind all that begin with the last one.
    number = 0
    last = 0
    for length, place in sorted([(length, place) for place, length in enumerate(lengths)]):
        number *= power(len(letters), length - last)
        words[place] = word_of_number(letters, number, length)
        number += 1
        last = length
    return Code(letters, tuple(words))


def word_of_number(letters, number, length):
    """The word of a length that so many others of these letters and this length are less than."""
    signs = []
    for _ in range(length):
        signs.append(letters[number % len(letters)])
        number = number // len(letters)
    return "".join(signs[::-1])
