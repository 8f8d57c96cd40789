"""Findings about formats, sheets, rows, numbers and leads: those of the parts 1 to 4."""

from serialhouse.comparing import is_same
from serialhouse.findingparts import name_of_finding, parts_read
from serialhouse.intoleads import into_holds
from serialhouse.leads import lead_holds
from serialhouse.leadtables import is_table, led
from serialhouse.numbering import length_at, number_of
from serialhouse.readingchecks import readings_hold
from serialhouse.rows import count
from serialhouse.rules import obeys
from serialhouse.sames import have_same_rows, rows_hold
from serialhouse.values import is_below, is_integer
from serialhouse.words import is_word

# The kinds of the parts behind the first one: the text of a format, that of a sheet, or any value.
KINDS = {
    "word": "F-", "no word": "F-", "same words": "FF", "apart": "FF-", "one reading": "S-", "two readings": "S---",
    "count": "F--", "rule": "F--", "same rows": "FF", "unlike rows": "FF-", "number": "F--", "length at": "F--",
    "lead": "FF-", "parted": "FF-", "into": "FF-", "barred": "FF-", "led": "FF---"}


def is_word_of(form, thing):
    """("word", F, word): whether any value is a word of a format."""
    return form.has(thing)


def is_word_not_of(form, thing):
    """("no word", F, word): whether any value is a word, but none of a format."""
    return is_word(thing) and not form.has(thing)


def are_same_words(one, other):
    """("same words", F, G)."""
    return is_same(one, other)


def is_word_apart(one, other, thing):
    """("apart", F, G, word): whether any value is a word of just one of two formats."""
    return one.has(thing) != other.has(thing)


def is_one_reading(sheet, pairs):
    """("one reading", S, pairs)."""
    return readings_hold(sheet, ("one", pairs))


def are_two_readings_of(sheet, word, reading, further):
    """("two readings", S, word, reading, further)."""
    return readings_hold(sheet, ("two", word, reading, further))


def is_count(form, length, number):
    """("count", F, length, number)."""
    return is_below(length, 301) and is_integer(number) and count(form, length) == number


def is_rule_of(form, firsts, factors):
    """("rule", F, firsts, factors)."""
    return obeys(form, (firsts, factors))


def are_same_rows(one, other):
    """("same rows", F, G)."""
    return have_same_rows(one, other)


def is_unlike_length(one, other, length):
    """("unlike rows", F, G, length)."""
    return rows_hold(one, other, ("unlike", length))


def is_number(form, word, number):
    """("number", F, word, number)."""
    return form.has(word) and is_integer(number) and number_of(form, word) == number


def is_length_at(form, number, length):
    """("length at", F, number, length)."""
    return is_integer(number) and is_integer(length) and length_at(form, number) == length


def is_lead(one, other, table):
    """("lead", F, G, table)."""
    return lead_holds(one, other, ("lead", table))


def is_parted(one, other, rounds):
    """("parted", F, G, rounds)."""
    return lead_holds(one, other, ("parted", rounds))


def is_lead_into(one, other, table):
    """("into", F, G, table)."""
    return into_holds(one, other, ("into", table))


def is_barred_by(one, other, rows):
    """("barred", F, G, rows)."""
    return into_holds(one, other, ("barred", rows))


def is_led_to(one, other, table, word, goal):
    """("led", F, G, table, word, word)."""
    return is_table(one, other, table) and one.has(word) and led(one, other, table, word) == goal


HOLDING = {
    "word": is_word_of, "no word": is_word_not_of, "same words": are_same_words, "apart": is_word_apart,
    "one reading": is_one_reading, "two readings": are_two_readings_of, "count": is_count, "rule": is_rule_of,
    "same rows": are_same_rows, "unlike rows": is_unlike_length, "number": is_number, "length at": is_length_at,
    "lead": is_lead, "parted": is_parted, "into": is_lead_into, "barred": is_barred_by, "led": is_led_to}


def form_finding_holds(thing):
    """Whether any value is a finding of the parts 1 to 4 that holds."""
    name = name_of_finding(thing)
    if name not in KINDS:
        return False
    parts = parts_read(KINDS[name], thing[1:])
    holds = HOLDING[name]
    return parts is not None and holds(*parts)
