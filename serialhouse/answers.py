"""Answers of the console to what is asked of formats, as strings."""

from serialhouse.drawing import draw_word
from serialhouse.errors import InvalidCommand, NoWords, TooFar, TooLong
from serialhouse.farcounts import count_left
from serialhouse.growth import degree
from serialhouse.intoleads import barring_depth
from serialhouse.leads import parting_depth
from serialhouse.limits import limits
from serialhouse.numbering import number_of, word_at
from serialhouse.ratios import fraction_text
from serialhouse.remainders import around
from serialhouse.rows import count
from serialhouse.rules import least_rule
from serialhouse.sames import first_unlike
from serialhouse.tosses import mean
from serialhouse.walks import are_letters_for

MOST_DRAWN = 300


def number_text(number):
    """An integer as Python writes it, however great."""
    return fraction_text((number, 1))


def word_text(word):
    """A word, - for the empty one."""
    return "-" if word == "" else word


def answer_count(form, length):
    """count NAME LENGTH."""
    return number_text(count(form, length))


def answer_left(form, length, under):
    """left NAME LENGTH UNDER."""
    return number_text(count_left(form, length, under))


def answer_rule(form):
    """rule NAME."""
    firsts, factors = least_rule(form)
    return " ".join([number_text(number) for number in firsts] + ["|"] + [number_text(number) for number in factors])


def answer_word(form, number):
    """word NAME NUMBER."""
    try:
        word = word_at(form, number)
    except TooLong:
        return "long"
    return "none" if word is None else word_text(word)


def answer_number(form, word):
    """number NAME WORD."""
    return number_text(number_of(form, word)) if form.has(word) else "none"


def answer_rows(one, other):
    """rows NAME NAME."""
    length = first_unlike(one, other)
    return "same" if length is None else f"unlike {number_text(length)}"


def answer_lead(one, other):
    """lead NAME NAME."""
    return depth_text(parting_depth(one, other))


def answer_into(one, other):
    """into NAME NAME."""
    return depth_text(barring_depth(one, other))


def depth_text(depth):
    """Whether there is a lead, which a depth tells that is None."""
    return "yes" if depth is None else f"no {number_text(depth)}"


def answer_toss(form, length, tosses):
    """toss NAME LENGTH TOSSES."""
    try:
        drawn = draw_word(form, length, tosses)
    except NoWords:
        return "none"
    if drawn[0] == "open":
        return f"open {number_text(drawn[1])} {number_text(drawn[2])}"
    return f"word {word_text(drawn[1])} {number_text(drawn[2])}"


def answer_mean(form, length):
    """mean NAME LENGTH."""
    many = count(form, length)
    if many == 0:
        return "none"
    return "many" if many > MOST_DRAWN else fraction_text(mean(many))


def answer_round(form, under):
    """round NAME UNDER."""
    try:
        first, turn = around(form, under)
    except TooFar:
        return "far"
    return f"{number_text(first)} {number_text(turn)}"


def answer_growth(form):
    """growth NAME."""
    power = degree(form)
    if power is None:
        return "doubles"
    return "ends" if power < 0 else f"power {number_text(power)}"


def answer_shares(form, letters):
    """shares NAME LETTERS; raises InvalidCommand if these are not such letters."""
    if not are_letters_for(form, letters):
        raise InvalidCommand()
    return " ".join([fraction_text(limit) for limit in limits(form, letters)])


ANSWERS = {
    "count": answer_count, "left": answer_left, "rule": answer_rule, "word": answer_word, "number": answer_number,
    "rows": answer_rows, "lead": answer_lead, "into": answer_into, "toss": answer_toss, "mean": answer_mean,
    "round": answer_round, "growth": answer_growth, "shares": answer_shares}


def answer_to(name, parts):
    """The answer to a command that asks, by its name and its parts."""
    told = ANSWERS[name]
    return told(*parts)
