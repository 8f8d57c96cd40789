"""Whether a code is read in one way, and how far ahead one has to look; with papers."""

from serialhouse.codes import is_message, is_nonempty_of, written
from serialhouse.errors import TwoWays
from serialhouse.looks import common, endless_paper, numbers_of_rests
from serialhouse.restwalks import all_walks, first_rests, onward_rests, shortest_alike
from serialhouse.values import is_ascending, is_integer, is_tuple_of


def is_without_beginnings(code):
    """Whether no word of a code begins with another one."""
    return not first_rests(code)


def is_one_way(code):
    """Whether no word has two readings."""
    return "" not in all_walks(code)


def judge_code(code):
    """A paper: ("one", rests), or ("two", one, other) written as short as can be."""
    alike = shortest_alike(code)
    if alike is None:
        return "one", tuple(sorted(list(all_walks(code))))
    return "two", alike[0], alike[1]


def code_holds(code, thing):
    """Whether any value is a paper that a code is read in one way, or that it is not."""
    if is_tuple_of(thing, 2) and thing[0] == "one":
        return do_rests_hold(code, thing[1])
    if is_tuple_of(thing, 3) and thing[0] == "two":
        return are_alike(code, thing[1], thing[2])
    return False


def do_rests_hold(code, thing):
    """Whether any value is an ascending tuple of rests, none of them a word, with all further rests in it."""
    if not isinstance(thing, tuple) or not all([is_nonempty_of(code.letters, rest) for rest in thing]):
        return False
    if not is_ascending(thing) or any([word in thing for word in code.words]):
        return False
    told = {rest: True for rest in thing}
    if not all([rest in told for _, _, rest in first_rests(code)]):
        return False
    return all([goal in told for rest in thing for _, goal, _ in onward_rests(code, rest)])


def are_alike(code, one, other):
    """Whether any values are two different messages that are written alike."""
    if not is_message(code, one) or not is_message(code, other):
        return False
    return one != other and written(code, one) == written(code, other)


def one_way_walks(code):
    """All walks of a code; raises TwoWays if it is not read in one way."""
    walks = all_walks(code)
    if "" in walks:
        raise TwoWays(judge_code(code))
    return walks


def look(code):
    """The look of a code, None if there is none; raises TwoWays."""
    numbers = numbers_of_rests(code, one_way_walks(code))
    return None if numbers is None else look_by(code, numbers)


def look_by(code, numbers):
    """The look of a code by a dict of the numbers of rests."""
    return max([0] + [numbers[rest] + 1 for _, _, rest in first_rests(code)])


def judge_look(code):
    """A paper: ("within", k, table) for the look itself, or ("endless", one, other, further, more); raises TwoWays."""
    walks = one_way_walks(code)
    numbers = numbers_of_rests(code, walks)
    if numbers is None:
        return endless_paper(code, walks)
    return "within", look_by(code, numbers), tuple([(rest, numbers[rest]) for rest in sorted(list(numbers))])


def look_holds(code, thing):
    """Whether any value is a paper that a look is at most so great, or that there is none."""
    if is_tuple_of(thing, 3) and thing[0] == "within":
        return is_one_way(code) and is_within(code, thing[1], thing[2])
    if is_tuple_of(thing, 5) and thing[0] == "endless":
        return all([is_message(code, message) for message in thing[1:]]) and do_go_on(
            code, thing[1], thing[2], thing[3], thing[4])
    return False


def is_within(code, most, thing):
    """Whether any values are a look from 0 on and a table of rests that holds it."""
    if not is_integer(most) or most < 0 or not isinstance(thing, tuple):
        return False
    if not all([is_tuple_of(pair, 2) and is_nonempty_of(code.letters, pair[0]) for pair in thing]):
        return False
    if not all([is_integer(number) and number >= 0 for _, number in thing]):
        return False
    if not is_ascending([rest for rest, _ in thing]):
        return False
    numbers = {rest: number for rest, number in thing}
    if not all([rest in numbers and numbers[rest] < most for _, _, rest in first_rests(code)]):
        return False
    return all([is_number_enough(code, numbers, rest) for rest in numbers])


def is_number_enough(code, numbers, rest):
    """Whether the number of a rest is as great as its words and further rests ask for."""
    if any([numbers[rest] < common(rest, word) for word in code.words]):
        return False
    for _, goal, is_turned in onward_rests(code, rest):
        many = len(rest) if is_turned else len(rest) - len(goal)
        if goal != "" and (goal not in numbers or numbers[rest] < many + numbers[goal]):
            return False
    return True


def do_go_on(code, one, other, further, more):
    """Whether two messages that begin with unlike words go on alike by two others, again and again."""
    if not one or not other or not further or not more or one[0] == other[0]:
        return False
    behind = written(code, one)
    ahead = written(code, other)
    if not ahead.startswith(behind):
        return False
    rest = ahead[len(behind):]
    return written(code, further) + rest == rest + written(code, more)
