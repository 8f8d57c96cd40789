"""The texts of formats and sheets: a line of the size, one for each move, and one of the ends."""

from serialhouse.errors import BadText
from serialhouse.numerals import figures_of, integer_of
from serialhouse.parts import are_ends, is_move


def text_of(head, size, moves, ends):
    """The text of parts, whose first line begins with head."""
    lines = [f"{head} {figures_of(size)}"]
    for state, letter, goal in moves:
        lines.append(f"move {figures_of(state)} {letter} {figures_of(goal)}")
    lines.append(" ".join(["ends"] + [figures_of(end) for end in ends]))
    return "\n".join(lines)


def read_parts(head, text, is_single):
    """The parts (size, moves, ends) that any value is the text of; raises BadText with the first wrong line."""
    if not isinstance(text, str):
        raise BadText(-1)
    lines = text.split("\n")
    size = read_size(head, lines[0])
    if size is None:
        raise BadText(0)
    moves = []
    for number, line in enumerate(lines[1:], start=1):
        ends = read_ends(line, size)
        if ends is not None:
            if number + 1 < len(lines):
                raise BadText(number + 1)
            return size, tuple(moves), ends
        move = read_move(line, size)
        if move is None or not can_follow(moves, move, is_single):
            raise BadText(number)
        moves.append(move)
    raise BadText(len(lines))


def read_size(head, line):
    """The size that a first line tells, None if it is none."""
    words = line.split(" ")
    if len(words) != 2 or words[0] != head:
        return None
    size = integer_of(words[1])
    return None if size == 0 else size


def read_ends(line, size):
    """The ends that a line tells, None if it is none of ends."""
    words = line.split(" ")
    if words[0] != "ends":
        return None
    ends = tuple([integer_of(word) for word in words[1:]])
    return ends if are_ends(ends, size) else None


def read_move(line, size):
    """The move that a line tells, None if it is none of a move."""
    words = line.split(" ")
    if len(words) != 4 or words[0] != "move":
        return None
    move = (integer_of(words[1]), words[2], integer_of(words[3]))
    return move if is_move(move, size) else None


def can_follow(moves, move, is_single):
    """Whether a move can stand behind moves that are right."""
    if not moves:
        return True
    last = moves[-1]
    return last < move and (not is_single or last[:2] != move[:2])
