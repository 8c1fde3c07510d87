"""Whether two stacks are alike for all that can be done with them."""

from layermap.deeds import done, done_in_turn
from layermap.kinds import is_column, is_deed, is_integer
from layermap.search import compared_deeds, is_closed, search
from layermap.stacks import check_stack, flat


class Alike:
    """A closed list of pairs of columns, which shows that two stacks are alike."""

    def __init__(self, pairs):
        self.pairs = list(pairs)

    def __len__(self):
        return len(self.pairs)

    def __iter__(self):
        return iter(self.pairs)

    def __eq__(self, other):
        return isinstance(other, Alike) and self.pairs == other.pairs

    def shows(self, one, other, *, shared=True):
        check_both(one, other)
        if not all([is_pair(pair, one, other) for pair in self.pairs]):
            return False
        starts, deeds = first_pairs(one, other), compared_deeds(shared)
        return is_closed(self.pairs, starts, deeds, pairs_after(one, other), has_parted)


class Parts:
    """A key and deeds, to the last of which two stacks have different answers."""

    def __init__(self, key, deeds):
        self.key = key
        self.deeds = deeds

    def __len__(self):
        return len(self.deeds)

    def __eq__(self, other):
        return isinstance(other, Parts) and self.key == other.key and self.deeds == other.deeds

    def shows(self, one, other, *, shared=True):
        check_both(one, other)
        if not is_integer(self.key) or not can_part(self.deeds, shared):
            return False
        return last_answer(one, self.key, self.deeds) != last_answer(other, self.key, self.deeds)


def alike(one, other, *, shared=True):
    """An Alike, or a Parts with as few deeds as possible."""
    check_both(one, other)
    return compared(one, other, first_pairs(one, other), compared_deeds(shared))


def compared(one, other, starts, deeds):
    """An Alike, or a Parts with as few deeds as possible, from the pairs of columns in a dict on."""
    pairs, wrong = search(starts, deeds, pairs_after(one, other), has_parted)
    if wrong is None:
        return Alike(pairs)
    _, key, parting = wrong
    return Parts(key, parting)


def soonest(one, other, *, shared=True):
    """The least number of deeds that part two stacks, None if they are alike."""
    return count_of_deeds(alike(one, other, shared=shared))


def count_of_deeds(found):
    """The number of deeds of a Parts, None for an Alike."""
    return len(found) if isinstance(found, Parts) else None


def is_flat(stack, *, shared=True):
    return soonest(stack, flat(stack), shared=shared) is None


def check_both(one, other):
    check_stack(one)
    check_stack(other)


def are_deeds(things, shared):
    """Whether this is a tuple, perhaps empty, of deeds that may be done, with any values."""
    if not isinstance(things, tuple):
        return False
    return all([is_deed(thing) and (shared or thing[0] != "beneath") for thing in things])


def can_part(things, shared):
    """Whether these are one or more deeds that may be done, with any values."""
    return are_deeds(things, shared) and len(things) > 0


def first_pairs(one, other):
    """A dict from the pairs of columns of all keys, one that no layer has too, to such a key."""
    held = sorted(set(one.held() + other.held()))
    found = {}
    for key in held + [unheld_key(held)]:
        found.setdefault((one.column(key), other.column(key)), key)
    return found


def unheld_key(held):
    known = {key: True for key in held}
    key = 0
    while key in known:
        key += 1
    return key


def pairs_after(one, other):
    """A function that gives the pair of columns after a pair and a deed."""
    return lambda pair, deed: pair_after(one, other, pair, deed)


def pair_after(one, other, pair, deed):
    """The pair of columns after a deed, None if the answers to it are different."""
    answer, column = done(one.layers, pair[0], deed)
    reply, opposite = done(other.layers, pair[1], deed)
    return (column, opposite) if answer == reply else None


def has_parted(pair):
    """Whether there is no pair any more, since the answers were different."""
    return pair is None


def is_pair(pair, one, other):
    """Whether this is a pair of a column of the one stack and one of the other."""
    if not isinstance(pair, tuple) or len(pair) != 2:
        return False
    return is_column(pair[0], len(one.layers)) and is_column(pair[1], len(other.layers))


def last_answer(stack, key, deeds):
    """The answer to the last one of deeds at a key, done without changing the stack."""
    return done_in_turn(stack.layers, stack.column(key), deeds)[0]
