"""Words by numbers, against the words gone through one by one."""

import random
import unittest

from serialhouse.errors import NotIn, TooLong
from serialhouse.farlengths import far_length, signed_product
from serialhouse.formats import Format
from serialhouse.joining import behind, either
from serialhouse.numbering import (
    between, first_from, has_number, how_many_ahead, last_to, length_at, many_to, number_of, step, word_at, words_at)
from serialhouse.rows import counts
from tests.helper import AA, ANY, DEAD, EMPTY, FORMS, NOAA, NONE, ONES, some_formats, words_of, words_to

MOST = 6


def turning(size, letter="a"):
    """The words of one letter whose length can be divided by a size."""
    return Format(size, tuple((state, letter, (state + 1) % size) for state in range(size)), (0,))


def chain(size):
    """The words of at most so many letters a."""
    return Format(size + 1, tuple((state, "a", state + 1) for state in range(size)), tuple(range(size + 1)))


def key(word):
    return len(word), word


def forms():
    return [form for form in FORMS if set(form.letters) <= set("ab")] + some_formats(60, 301)


class ShortTest(unittest.TestCase):
    def test_numbers_and_words(self):
        for form in forms():
            words = words_of(form, "ab", MOST)
            for number, word in enumerate(words):
                self.assertEqual(number_of(form, word), number)
                self.assertEqual(word_at(form, number), word)
                self.assertEqual(length_at(form, number), len(word))
                self.assertIs(has_number(form, number), True)
            for many in range(MOST + 1):
                self.assertEqual(many_to(form, many), len([word for word in words if len(word) <= many]))

    def test_all_texts(self):
        for form in forms():
            words = words_of(form, "ab", MOST)
            for text in words_to("abc", 4):
                ahead = [word for word in words if key(word) < key(text)]
                behind_it = [word for word in words if key(word) >= key(text)]
                self.assertEqual(how_many_ahead(form, text), len(ahead))
                if behind_it:
                    self.assertEqual(first_from(form, text), behind_it[0])
                told = [word for word in words if key(word) <= key(text)]
                self.assertEqual(last_to(form, text), told[-1] if told else None)

    def test_between(self):
        texts = words_to("abc", 2) + ["abab", "zz", "bba"]
        for form in forms()[:30]:
            words = words_of(form, "ab", MOST)
            for one in texts:
                for other in texts:
                    low, high = sorted((key(one), key(other)))
                    self.assertEqual(
                        between(form, one, other), len([word for word in words if low < key(word) < high]))

    def test_formats_with_few_words(self):
        for form in (NONE, EMPTY, AA, chain(3)):
            words = words_of(form, "a", MOST)
            for number in (-1, -10 ** 60, len(words), len(words) + 1, 10 ** 60):
                self.assertIs(has_number(form, number), False)
                self.assertIsNone(word_at(form, number))
                self.assertIsNone(length_at(form, number))
            for number in range(len(words) + 2):
                for many in range(5):
                    self.assertEqual(words_at(form, number, many), tuple(words[number:number + many]))
            self.assertEqual(words_at(form, 10 ** 60, 200), ())
            self.assertIsNone(first_from(form, "aaaaaa"))
            self.assertEqual(last_to(form, "zzzzzzzz"), words[-1] if words else None)

    def test_endless(self):
        for form in (ONES, NOAA, DEAD):
            self.assertIs(has_number(form, 10 ** 60), True)
            self.assertIs(has_number(form, -1), False)
            self.assertIsNone(word_at(form, -1))
            self.assertIsNone(length_at(form, -10 ** 60))
        # Rounds that are not useful do not make words.
        for form in (Format(2, ((0, "a", 1), (1, "a", 1)), (0,)), Format(3, ((1, "a", 1), (2, "b", 1)), (0, 1)),
                     Format(3, ((0, "a", 1), (0, "b", 2), (2, "a", 2)), (1,))):
            self.assertIs(has_number(form, 0), True)
            self.assertIs(has_number(form, 1), False)


class StepTest(unittest.TestCase):
    def test_steps(self):
        for form in forms():
            words = words_of(form, "ab", MOST)
            for number, word in enumerate(words[:9]):
                for by in range(-10, 11):
                    at = number + by
                    if at < len(words):
                        self.assertEqual(step(form, word, by), words[at] if at >= 0 else None)

    def test_steps_add_up(self):
        source = random.Random(302)
        for _ in range(30):
            first = source.randrange(10 ** 29, 10 ** 30)
            second = source.randrange(-10 ** 29, 10 ** 29)
            word = step(NOAA, "ab", first)
            self.assertEqual(number_of(NOAA, word), 3 + first)
            further = step(NOAA, word, second)
            self.assertEqual(further, step(NOAA, "ab", first + second))
            self.assertEqual(step(NOAA, further, -first - second), "ab")
            self.assertIsNone(step(NOAA, word, -first - 4))

    def test_wrong_words(self):
        for form in (NOAA, NONE, ONES):
            for thing in ANY + ("abaab", "A", "b ", "ba\n", "c", "z" * 120):
                if isinstance(thing, str) and form.has(thing):
                    continue
                for call in (lambda value: number_of(form, value), lambda value: step(form, value, 0),
                             lambda value: step(form, value, 10 ** 60), lambda value: step(form, value, -10 ** 60)):
                    with self.assertRaises(NotIn) as caught:
                        call(thing)
                    self.assertEqual(caught.exception.word, thing)


class LongTest(unittest.TestCase):
    def raises(self, function, *arguments):
        with self.assertRaises(TooLong) as caught:
            function(*arguments)
        self.assertEqual(caught.exception.most, 200)

    def test_where_words_become_too_long(self):
        self.assertEqual(word_at(ONES, 200), "a" * 200)
        self.raises(word_at, ONES, 201)
        self.raises(word_at, ONES, 10 ** 60)
        self.assertEqual(words_at(ONES, 199, 2), ("a" * 199, "a" * 200))
        self.raises(words_at, ONES, 199, 3)
        self.raises(words_at, ONES, 201, 1)
        self.assertEqual(words_at(ONES, 10 ** 60, 0), ())
        self.assertEqual(step(ONES, "a" * 100, 100), "a" * 200)
        self.raises(step, ONES, "a" * 100, 101)
        self.raises(step, ONES, "", 10 ** 60)
        self.assertEqual(length_at(ONES, 201), 201)
        full = many_to(NOAA, 200)
        self.assertEqual(word_at(NOAA, full - 1), "b" * 200)
        self.raises(word_at, NOAA, full)
        self.assertEqual(length_at(NOAA, full), 201)
        self.assertEqual(number_of(NOAA, "b" * 200), full - 1)

    def test_texts_behind_all_that_can_be_told(self):
        third = turning(150)
        self.assertEqual(first_from(third, "a" * 120), "a" * 150)
        self.assertEqual(last_to(third, "a" * 120), "")
        self.raises(first_from, turning(250), "b")
        self.assertEqual(last_to(turning(250), "b"), "")

    def test_a_finite_format_with_longer_words(self):
        form = chain(210)
        self.assertEqual(word_at(form, 200), "a" * 200)
        self.raises(word_at, form, 201)
        self.raises(words_at, form, 205, 200)
        self.assertIsNone(word_at(form, 211))
        self.assertEqual(words_at(form, 211, 200), ())
        self.assertEqual(length_at(form, 210), 210)
        self.assertIsNone(length_at(form, 211))

    def test_numbers_of_sixty_figures(self):
        source = random.Random(303)
        for form in (NOAA, Format(1, ((0, "x", 0), (0, "y", 0), (0, "z", 0)), (0,))):
            for _ in range(20):
                number = source.randrange(10 ** 39)
                word = word_at(form, number)
                self.assertEqual(number_of(form, word), number)
                self.assertEqual(length_at(form, number), len(word))
                self.assertEqual(words_at(form, number, 3), tuple(word_at(form, number + at) for at in range(3)))
        number = 10 ** 60 - 1
        self.assertEqual(number_of(NOAA, word_at(NOAA, number // 10 ** 18)), number // 10 ** 18)


class FarLengthTest(unittest.TestCase):
    def told(self, form, number):
        """The length of the word with a number, going from length to length."""
        length = 0
        for many in counts(form, 800):
            if number < many:
                return length
            number -= many
            length += 1
        return None

    def test_against_length_by_length(self):
        forms_to_try = (
            ONES, NOAA, turning(7), either(turning(4), turning(6)), behind(turning(3), turning(2, "b")),
            behind(turning(3), behind(turning(4, "b"), turning(2, "a"))), Format(2, ((0, "a", 0), (0, "b", 1)), (0, 1)),
            Format(3, ((0, "a", 1), (1, "a", 2), (2, "a", 0), (2, "b", 0)), (0,)))
        source = random.Random(304)
        for form in forms_to_try:
            row = counts(form, 700)
            numbers = [sum(row[:length]) + more for length in (201, 202, 250, 333, 400, 688) for more in (-1, 0, 1)]
            numbers += [source.randrange(sum(row[:600])) for _ in range(20)]
            for number in numbers:
                self.assertEqual(length_at(form, number), self.told(form, number))
                if number >= sum(row[:2]):
                    self.assertEqual(far_length(form, number), self.told(form, number))

    def test_far_away(self):
        self.assertEqual(length_at(ONES, 10 ** 60), 10 ** 60)
        self.assertEqual(length_at(turning(6), 10 ** 60), 6 * 10 ** 60)
        # Of the words a..ab..b, 1 + 2 + .. + n have fewer than n letters.
        pairs = Format(2, ((0, "a", 0), (0, "b", 1), (1, "b", 1)), (0, 1))
        for length in (10 ** 29, 10 ** 28 + 7, 999):
            shorter = length * (length + 1) // 2
            self.assertEqual(length_at(pairs, shorter - 1), length - 1)
            self.assertEqual(length_at(pairs, shorter), length)
            self.assertEqual(length_at(pairs, shorter + length), length)
            self.assertEqual(length_at(pairs, shorter + length + 1), length + 1)

    def test_many_rounds(self):
        form = either(either(turning(4), turning(5)), turning(3))
        # In 60 lengths there are 36 that 3, 4 or 5 divides.
        divided = [length for length in range(60) if length % 3 == 0 or length % 4 == 0 or length % 5 == 0]
        for number in (10 ** 59, 10 ** 59 + 7, 10 ** 60 - 1):
            self.assertEqual(length_at(form, number), number // 36 * 60 + divided[number % 36])

    def test_products(self):
        source = random.Random(305)
        for _ in range(60):
            one = [source.randint(-9, 9) for _ in range(source.randint(1, 6))]
            other = [source.choice((-1, 0, 16 ** 9, -8 ** 7)) for _ in range(source.randint(1, 6))]
            told = [0] * (len(one) + len(other) - 1)
            for at, mine in enumerate(one):
                for place, yours in enumerate(other):
                    told[at + place] += mine * yours
            self.assertEqual(signed_product(one, other), told)
        self.assertEqual(signed_product([0], [0, 0]), [0, 0])
