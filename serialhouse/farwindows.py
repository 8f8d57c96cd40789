"""Terms of a row when divided: the first ones, and as many in a row as its rule has factors, however far on.

The terms from an index on are told by the first ones and by what x, to the power of the index, leaves when it is
divided by the polynomial of the rule.
"""

from serialhouse.farcounts import multiplied


def terms_left(rule, many, under):
    """What the first so many terms of a rule leave when they are divided by under, each from 0 to under less 1."""
    firsts, factors = rule
    taps = [(at + 1, factor % under) for at, factor in enumerate(factors) if factor % under != 0]
    row = [number % under for number in firsts[:many]]
    while len(row) < many:
        row.append(sum([factor * row[-back] for back, factor in taps]) % under)
    return tuple(row)


def window_left(rule, index, under):
    """What as many terms as a rule has factors leave, from an index on."""
    many = len(rule[1])
    if many == 0:
        return ()
    row = terms_left(rule, 2 * many, under)
    power = power_left_of_x(rule[1], index, under)
    return tuple([sum([factor * term for factor, term in zip(power, row[at:])]) % under for at in range(many)])


def power_left_of_x(factors, index, under):
    """The factors of what x to the power of an index leaves, by the polynomial of a rule and by under."""
    power = [1 % under]
    for figure in f"{index:b}":
        power = reduced(multiplied(power, power, under), factors, under)
        if figure == "1":
            power = reduced([0] + power, factors, under)
    return power


def reduced(power, factors, under):
    """What a polynomial leaves when it is divided by the one of a rule."""
    left = list(power)
    for at in range(len(power) - 1, len(factors) - 1, -1):
        top = left[at]
        for back, factor in enumerate(factors, start=1):
            left[at - back] = (left[at - back] + top * factor) % under
    return left[:len(factors)]
