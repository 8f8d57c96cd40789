"""Going through keys from a start, letter by letter, in the order of the first words that lead to them.

A key is a state, or what stands for several of them; move_on(key, letter) is the key to which a letter leads,
or None.
"""


def explored(start, letters, move_on):
    """The keys that are met, and for each of them a dict from letters to the numbers of keys."""
    keys = [start]
    numbers = {start: 0}
    rows = []
    while len(rows) < len(keys):
        key = keys[len(rows)]
        row = {}
        for letter in letters:
            goal = move_on(key, letter)
            if goal is None:
                continue
            if goal not in numbers:
                numbers[goal] = len(keys)
                keys.append(goal)
            row[letter] = numbers[goal]
        rows.append(row)
    return keys, rows


def first_led(start, letters, move_on, is_goal):
    """The first word that leads to a key which is_goal takes, None if there is none."""
    if is_goal(start):
        return ""
    words = {start: ""}
    keys = [start]
    looked_at = 0
    while looked_at < len(keys):
        key = keys[looked_at]
        looked_at += 1
        for letter in letters:
            goal = move_on(key, letter)
            if goal is None or goal in words:
                continue
            words[goal] = words[key] + letter
            if is_goal(goal):
                return words[goal]
            keys.append(goal)
    return None


def letters_of(one, other):
    """The letters of two formats, ascending."""
    return "".join(sorted(set(one.letters + other.letters)))


def pair_step(one, other, pair, letter):
    """Where a letter leads from a pair of states, None standing for no state; None if to no state of either."""
    mine = None if pair[0] is None else one.step(pair[0], letter)
    yours = None if pair[1] is None else other.step(pair[1], letter)
    if mine is None and yours is None:
        return None
    return mine, yours
