"""Primes, and what is inverse by a modulus."""

from math import isqrt


def next_prime(number):
    """The least prime greater than an integer from 1 on."""
    number += 1
    while not is_prime(number):
        number += 1
    return number


def is_prime(number):
    """Whether an integer from 2 on is a prime."""
    for divisor in range(2, isqrt(number) + 1):
        if number % divisor == 0:
            return False
    return True


def inverse_of(number, modulus):
    """The inverse of a number by a modulus, None if there is none."""
    now, later = number % modulus, modulus
    factor, further = 1, 0
    while later:
        times = now // later
        now, later = later, now - times * later
        factor, further = further, factor - times * further
    return factor % modulus if now == 1 else None
