"""Words of one length drawn by a fair coin, in one go or letter by letter."""

from serialhouse.errors import NoWords
from serialhouse.layers import Layers
from serialhouse.ratios import fraction, plus, times
from serialhouse.tosses import draw, draw_by, mean, mean_by


def layers_for(form, length):
    """The layers of a format; raises NoWords if it has no word of a length."""
    layers = Layers(form)
    if layers.count_of(length) == 0:
        raise NoWords(length)
    return layers


def draw_word(form, length, tosses):
    """("drawn", word, used), or ("open", places, place), for drawing a word in one go; raises NoWords."""
    layers = layers_for(form, length)
    drawn = draw(layers.count_of(length), tosses)
    if drawn[0] == "open":
        return drawn
    return "drawn", layers.word_of(length, drawn[1]), drawn[2]


def draw_by_letters(form, length, tosses):
    """("drawn", word, used), or ("open", begun, places, place), drawing letter by letter; raises NoWords."""
    layers = layers_for(form, length)
    begun = ""
    state = 0
    used = 0
    for left in range(length, 0, -1):
        moves, weights = layers.weights(state, left)
        drawn = draw_by(weights, tosses[used:])
        if drawn[0] == "open":
            return "open", begun, drawn[1], drawn[2]
        letter, state = moves[drawn[1]]
        begun += letter
        used += drawn[2]
    return "drawn", begun, used


def word_mean(form, length):
    """The mean number of tosses, drawing a word of a length in one go; raises NoWords."""
    return mean(layers_for(form, length).count_of(length))


def letter_mean(form, length):
    """The mean number of tosses, drawing a word of a length letter by letter; raises NoWords."""
    layers = layers_for(form, length)
    means = {}
    total = (0, 1)
    begun = {0: 1}
    for left in range(length, 0, -1):
        onward = {}
        for state, many in begun.items():
            moves, weights = layers.weights(state, left)
            key = tuple(weights)
            if key not in means:
                means[key] = mean_by(key)
            share = fraction(many * sum(weights), layers.count_of(length))
            total = plus(total, times(share, means[key]))
            for (_, goal), weight in zip(moves, weights):
                if weight > 0:
                    onward[goal] = onward.get(goal, 0) + many
        begun = onward
    return total
