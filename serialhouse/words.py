"""Words: strings of letters from a to z, and their order."""


def is_letter(thing):
    """Whether any value is one letter."""
    return isinstance(thing, str) and len(thing) == 1 and "a" <= thing <= "z"


def is_word(thing):
    """Whether any value is a word: a string of letters, perhaps empty."""
    return isinstance(thing, str) and all(["a" <= sign <= "z" for sign in thing])


def is_ahead(one, other):
    """Whether a word is ahead of another one: shorter ones first, of one length the lesser ones."""
    return (len(one), one) < (len(other), other)


def common_beginning(one, other):
    """The longest word with which two words begin."""
    many = 0
    for mine, yours in zip(one, other):
        if mine != yours:
            break
        many += 1
    return one[:many]
