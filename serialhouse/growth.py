"""Growth: whether a format ends, doubles, or grows by a power, with papers."""

from serialhouse.rings import Rings


def judge_growth(form):
    """A paper: ("ends", depths), ("doubles", word, one, other, last), or ("power", degree, levels, chain)."""
    rings = Rings(form)
    state = rings.doubling_state()
    if state is not None:
        return doubles_paper(rings, state)
    levels = rings.levels()
    rows = [(state, levels[state][0], levels[state][1]) for state in form.useful]
    power = top_level(levels) - 1
    if power < 0:
        return "ends", tuple([(state, depth) for state, _, depth in rows])
    return "power", power, tuple(rows), tuple(chain_of(rings, levels))


def top_level(levels):
    """The level of state 0, 0 if it is not useful."""
    return levels[0][0] if levels else 0


def doubles_paper(rings, state):
    """The paper that a format doubles, for a state at which rings begin by two moves."""
    moves = rings.inner_moves(state)
    one = rings.ring(state, moves[0])
    other = rings.ring(state, moves[1])
    word = rings.word_to(0, {state: True})
    # Both rings in either order are words of one length that begin by unlike letters.
    return "doubles", word, one + other, other + one, last_word(rings, state)


def last_word(rings, state):
    """The first word that leads from a useful state to an end."""
    return rings.word_to(state, {end: True for end in rings.form.ends})


def chain_of(rings, levels):
    """Words that lead from ring to ring, level by level, and at last to an end; and the rings between them."""
    words = []
    state = 0
    for level in range(top_level(levels), 0, -1):
        goals = {goal: True for goal in levels if levels[goal][0] == level and rings.is_on_ring(goal)}
        words.append(rings.word_to(state, goals))
        state = rings.form.led(words[-1], state)
        words.append(rings.ring(state, rings.inner_moves(state)[0]))
    return words + [last_word(rings, state)]


def degree(form):
    """The degree of a format that grows by a power; -1 if it ends, None if it doubles."""
    rings = Rings(form)
    return None if rings.doubling_state() is not None else top_level(rings.levels()) - 1


def grows_faster(one, other):
    """Whether the first format doubles while the second one does not, or has the greater degree."""
    mine = degree(one)
    yours = degree(other)
    if mine is None or yours is None:
        return yours is not None
    return mine > yours


def longest(form):
    """The greatest length of a word, -1 if there is no word, None if there is no greatest length."""
    if not form.useful:
        return -1
    rings = Rings(form)
    if any([rings.is_on_ring(state) for state in form.useful]):
        return None
    return rings.levels()[0][1]
