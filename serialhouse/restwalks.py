"""Two messages written side by side: what the one is ahead of the other is a rest."""

from heapq import heappop, heappush


def first_rests(code):
    """The triples (one, other, rest): the word of the number other is that of one, and the rest behind it."""
    return [
        (one, other, code.words[other][len(word):])
        for one, word in enumerate(code.words) for other in range(len(code.words))
        if one != other and code.words[other].startswith(word)]


def onward_rests(code, rest):
    """The triples (number, rest, is_turned): a word is put behind the message that a rest is missing from.

    It is turned if this message is ahead then. An empty rest tells that both are written alike.
    """
    told = []
    for number, word in enumerate(code.words):
        if rest.startswith(word):
            told.append((number, rest[len(word):], False))
        elif word.startswith(rest):
            told.append((number, word[len(rest):], True))
    return told


class Walk:
    """Two messages, one of them ahead; turned tells whether it is the one that was behind in the beginning."""

    def __init__(self, behind, ahead, turned):
        self.behind = behind
        self.ahead = ahead
        self.turned = turned

    def onward(self, number, is_turned):
        """The walk with one word more behind the message that is behind, which may be ahead then."""
        longer = self.behind + (number,)
        if is_turned:
            return Walk(self.ahead, longer, not self.turned)
        return Walk(longer, self.ahead, self.turned)


def walks_from(code, pairs):
    """A dict from all rests that are met, from pairs (rest, walk), to walks that lead to them."""
    walks = {}
    waiting = []
    for rest, walk in pairs:
        if rest not in walks:
            walks[rest] = walk
            waiting.append(rest)
    while waiting:
        rest = waiting.pop()
        if rest == "":
            continue
        for number, goal, is_turned in onward_rests(code, rest):
            if goal not in walks:
                walks[goal] = walks[rest].onward(number, is_turned)
                waiting.append(goal)
    return walks


def all_walks(code):
    """A dict from all rests that two messages with unlike first words can have to walks that lead to them."""
    return walks_from(code, [(rest, Walk((one,), (other,), False)) for one, other, rest in first_rests(code)])


def shortest_alike(code):
    """Two different messages that are written alike, as short as can be; None if there are none."""
    queue = []
    for one, other, rest in first_rests(code):
        heappush(queue, (len(code.words[other]), rest, (one,), (other,)))
    met = {}
    while queue:
        length, rest, behind, ahead = heappop(queue)
        if rest == "":
            return behind, ahead
        if rest in met:
            continue
        met[rest] = True
        for number, goal, is_turned in onward_rests(code, rest):
            longer = behind + (number,)
            if is_turned:
                heappush(queue, (length + len(goal), goal, ahead, longer))
            else:
                heappush(queue, (length, goal, longer, ahead))
    return None
