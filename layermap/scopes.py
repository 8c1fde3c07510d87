"""Scopes: a layer is put above a stack, taken away again, and perhaps poured into what is below."""

from layermap.alike import are_deeds, first_pairs, is_pair, pairs_after
from layermap.deeds import done, done_in_turn
from layermap.errors import BadFlag, BadLayer, BadStack
from layermap.kinds import HIDDEN, MOST_LAYERS, is_integer, is_layer
from layermap.search import OWN_DEEDS, is_closed, search
from layermap.stacks import Stack, check_stack


class Faithful:
    """A closed list of pairs of columns, which shows that a layer is faithful to a stack."""

    def __init__(self, pairs):
        self.pairs = list(pairs)

    def __eq__(self, other):
        return isinstance(other, Faithful) and self.pairs == other.pairs

    def shows(self, stack, layer):
        scope = entered(stack, layer)
        if not all([is_pair(pair, scope, stack) for pair in self.pairs]):
            return False
        starts = first_pairs(scope, stack)
        return is_closed(self.pairs, starts, OWN_DEEDS, pairs_after(scope, stack), betrays(scope.layers))


class Betrayal:
    """A key and deeds, which show that a layer is not faithful to a stack."""

    def __init__(self, key, deeds, poured):
        self.key = key
        self.deeds = deeds
        self.poured = poured

    def __eq__(self, other):
        if not isinstance(other, Betrayal):
            return False
        return self.key == other.key and self.deeds == other.deeds and self.poured == other.poured

    def shows(self, stack, layer):
        scope = entered(stack, layer)
        if not is_integer(self.key) or not are_deeds(self.deeds, False) or not isinstance(self.poured, bool):
            return False
        answer, above = done_in_turn(scope.layers, scope.column(self.key), self.deeds)
        reply, column = done_in_turn(stack.layers, stack.column(self.key), self.deeds)
        if self.poured:
            return poured_column(scope.layers, above) != column
        return answer != reply


def entered(stack, layer):
    """An independent stack with a layer, which has nothing, above those of a stack."""
    check_stack(stack)
    if len(stack.layers) == MOST_LAYERS:
        raise BadStack("LAYERS")
    if not is_layer(layer):
        raise BadLayer("not a layer")
    return Stack.of(layer) + stack


def left(stack, *, poured=True):
    """An independent stack without the first layer of a stack, in which is done what it has, if it is poured."""
    check_stack(stack)
    count = len(stack.layers)
    if count == 1:
        raise BadStack("LAYERS")
    if not isinstance(poured, bool):
        raise BadFlag("not a boolean")
    below = stack.chosen(tuple(range(1, count)))
    if poured:
        for key in stack.held():
            below.put(key, poured_column(stack.layers, stack.column(key)))
    return below


def faithful(stack, layer):
    """A Faithful, or a Betrayal with as few deeds as possible."""
    scope = entered(stack, layer)
    starts = first_pairs(scope, stack)
    pairs, wrong = search(starts, OWN_DEEDS, pairs_after(scope, stack), betrays(scope.layers))
    if wrong is None:
        return Faithful(pairs)
    pair, key, deeds = wrong
    # Where there still is a pair, all answers were the same.
    return Betrayal(key, deeds, pair is not None)


def is_faithful(stack, layer):
    return isinstance(faithful(stack, layer), Faithful)


def first_betrayal(stack, layer):
    """The least number of deeds that show that a layer is not faithful, None if it is."""
    found = faithful(stack, layer)
    return len(found.deeds) if isinstance(found, Betrayal) else None


def betrays(layers):
    """A function that tells whether answers were different, or columns are, when the scope is left and poured."""
    return lambda pair: pair is None or poured_column(layers, pair[0]) != pair[1]


def poured_column(layers, column):
    """The column below the first layer, behind what this layer has is done there."""
    held, below = column[0], column[1:]
    if held is None:
        return below
    deed = ("forget",) if held == HIDDEN else ("write", held)
    return done(layers[1:], below, deed)[1]
