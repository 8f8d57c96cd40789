"""Keys with choices: each key given one of its own, or some keys with fewer choices than they are (P. Hall 1935)."""


def matched(choices):
    """By a dict from keys to lists of choices: a dict from keys to unlike choices, and None.

    If there is none: None, and the ascending list of some keys that have fewer choices together than they are.
    """
    owners = {}
    for key in choices:
        seen = {}
        if not is_given(key, choices, owners, seen):
            # Each choice that was seen is given to one of these keys, and they have no others.
            return None, sorted([key] + [owners[choice] for choice in seen])
    return {owner: choice for choice, owner in owners.items()}, None


def is_given(key, choices, owners, seen):
    """Gives a key a choice, perhaps of a key that takes another one; whether there was one."""
    for choice in choices[key]:
        if choice in seen:
            continue
        seen[choice] = True
        if choice not in owners or is_given(owners[choice], choices, owners, seen):
            owners[choice] = key
            return True
    return False
