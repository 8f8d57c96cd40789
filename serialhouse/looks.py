"""How many letters two messages can have in common behind the end of the one, by the rest that it lacks."""

from serialhouse.restwalks import Walk, onward_rests, walks_from
from serialhouse.words import common_beginning


def common(one, other):
    """How many letters the common beginning of two words has."""
    return len(common_beginning(one, other))


def numbers_of_rests(code, walks):
    """A dict from the rests of a code that is read in one way to their numbers, None if there is no greatest one."""
    numbers = {rest: max([0] + [common(rest, word) for word in code.words]) for rest in walks}
    # Numbers that still become greater, when as many words as there are rests were looked at, do so for ever.
    for _ in range(len(walks) + 1):
        greater = {rest: greater_number(code, numbers, rest) for rest in walks}
        if greater == numbers:
            return numbers
        numbers = greater
    return None


def greater_number(code, numbers, rest):
    """The number of a rest, as the numbers told for the rests behind it tell."""
    told = [numbers[rest]]
    for _, goal, is_turned in onward_rests(code, rest):
        told.append(numbers[goal] + (len(rest) if is_turned else len(rest) - len(goal)))
    return max(told)


def endless_paper(code, walks):
    """The paper ("endless", one, other, further, more) for a code whose rests come round."""
    for rest in walks:
        start = Walk((), (), False)
        round_walks = walks_from(code, [
            (goal, start.onward(number, is_turned)) for number, goal, is_turned in onward_rests(code, rest)])
        if rest not in round_walks:
            continue
        walk = round_walks[rest]
        if walk.turned:
            # The message that was behind is ahead now, so both change places when this is done again.
            further, more = walk.ahead + walk.behind, walk.behind + walk.ahead
        else:
            further, more = walk.behind, walk.ahead
        return "endless", walks[rest].behind, walks[rest].ahead, further, more
