"""Drawing by a fair coin, in as few tosses in the mean as can be."""

from serialhouse.ratios import fraction


def are_tosses(thing):
    """Whether any value is a row of tosses."""
    return isinstance(thing, str) and all([sign == "0" or sign == "1" for sign in thing])


def draw(many, tosses):
    """("drawn", index, used), or ("open", places, place), for drawing among so many things."""
    if many == 1:
        return "drawn", 0, 0
    places = 1
    place = 0
    for used, toss in enumerate(tosses, start=1):
        places = 2 * places
        place = 2 * place + (1 if toss == "1" else 0)
        if places >= many:
            if place < many:
                return "drawn", place, used
            places -= many
            place -= many
    return "open", places, place


def draw_by(weights, tosses):
    """("drawn", index, used), or ("open", places, place), for drawing by weights."""
    total = sum(weights)
    if total in weights:
        return "drawn", weights.index(total), 0
    rests = list(weights)
    place = 0
    for used, toss in enumerate(tosses, start=1):
        place = 2 * place + (1 if toss == "1" else 0)
        leaves = [index for index, rest in enumerate(rests) if 2 * rest >= total]
        if place < len(leaves):
            return "drawn", leaves[place], used
        place -= len(leaves)
        rests = onward_rests(rests, total)
    return "open", sum(rests) // total, place


def onward_rests(rests, total):
    """What twice as much as each of some rests leaves when it is divided by their total weight."""
    return [2 * rest % total for rest in rests]


def power_left(depth, many):
    """What 2 to the power of a depth leaves when it is divided by many."""
    left = 1 % many
    for figure in f"{depth:b}":
        left = left * left * (2 if figure == "1" else 1) % many
    return left


def open_at(many, depth):
    """How many open places there are at a depth, drawing among so many things."""
    return power_left(depth, many)


def leaves_at(many, depth):
    """How many leaves there are at a depth, drawing among so many things."""
    if depth == 0:
        return 1 if many == 1 else 0
    return many if 2 * power_left(depth - 1, many) >= many else 0


def open_round(many):
    """(first, around): from first on as many places are open as around deeper, both as small as can be."""
    first, opens = round_from(1 % many, lambda places: 2 * places % many)
    return first, len(opens) - first


def round_from(start, move_on):
    """What comes up from a start until something comes up again, and the index of this."""
    met = {}
    now = start
    while now not in met:
        met[now] = len(met)
        now = move_on(now)
    return met[now], list(met)


def rows_to(many, index, most):
    """The tuple of all rows of at most so many tosses that draw a thing with their last toss, shorter ones first."""
    if many == 1:
        return ("",)
    told = []
    places = 1
    leaves = [0]
    for depth in range(1, most + 1):
        places = 2 * places
        leaves.append(many if places >= many else 0)
        places -= leaves[depth]
        if leaves[depth]:
            told.append(row_to(leaves, index))
    return tuple(told)


def row_to(leaves, place):
    """The row of tosses that leads to a place at the last of some depths, by the leaves at each of them."""
    signs = []
    for less in leaves[-2::-1]:
        signs.append(str(place % 2))
        place = place // 2 + less
    return "".join(signs[::-1])


def mean(many):
    """The mean number of tosses, drawing among so many things."""
    first, opens = round_from(1 % many, lambda places: 2 * places % many)
    return summed_by_halves(opens, first)


def mean_by(weights):
    """The mean number of tosses, drawing by weights."""
    total = sum(weights)
    first, rests = round_from(
        tuple([weight % total for weight in weights]), lambda told: tuple(onward_rests(told, total)))
    return summed_by_halves([sum(row) // total for row in rests], first)


def summed_by_halves(opens, first):
    """The sum of numbers of open places, each divided by 2 to the power of its depth, if they come round from first."""
    around = len(opens) - first
    ahead = weighed(opens[:first])
    # What comes round is as much as one round, and that again for each round behind it.
    top = ahead * ((1 << around) - 1) * 2 + weighed(opens[first:]) * 2
    return fraction(top, ((1 << around) - 1) << first)


def weighed(opens):
    """The sum of some numbers, the last one once, each other one twice as much as the one behind it."""
    total = 0
    for places in opens:
        total = 2 * total + places
    return total
