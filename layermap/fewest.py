"""The fewest layers of a stack that are enough for all that can be done with it."""

from layermap.alike import Alike, Parts, alike
from layermap.kinds import is_integer
from layermap.stacks import check_stack


class Fewest:
    """The fewest layers that are enough, with what shows that they are, and that fewer are not."""

    def __init__(self, kept, pairs, parts):
        self.kept = kept
        self.pairs = list(pairs)
        self.parts = {choice: parts[choice] for choice in parts}

    def __iter__(self):
        return iter(self.parts.items())

    def __eq__(self, other):
        if not isinstance(other, Fewest):
            return False
        return self.kept == other.kept and self.pairs == other.pairs and self.parts == other.parts

    def shows(self, stack, *, shared=True):
        check_stack(stack)
        count = len(stack.layers)
        if not is_choice(self.kept, count) or not are_fewer(self.parts, self.kept, count):
            return False
        if not Alike(self.pairs).shows(stack, stack.chosen(self.kept), shared=shared):
            return False
        return all([is_parted(stack, choice, told, shared) for choice, told in self.parts.items()])


def fewest(stack, *, shared=True):
    """A Fewest that has as few deeds as possible for each choice of fewer layers."""
    check_stack(stack)
    choices = all_choices(len(stack.layers))
    parts = {}
    found = alike(stack, stack.chosen(choices[0]), shared=shared)
    # This ends: the last choice is that of all layers, whose stack is alike to the whole one.
    while isinstance(found, Parts):
        parts[choices[len(parts)]] = (found.key, found.deeds)
        found = alike(stack, stack.chosen(choices[len(parts)]), shared=shared)
    kept = choices[len(parts)]
    return Fewest(kept, found.pairs, {choice: parts[choice] for choice in parts if len(choice) < len(kept)})


def fewest_size(stack, *, shared=True):
    """The number of layers that are enough."""
    return len(fewest(stack, shared=shared).kept)


def all_choices(count):
    """The choices of so many layers, those of fewer layers first."""
    choices = [()]
    for at in range(count - 1):
        choices = choices + [choice + (at,) for choice in choices]
    return sorted([choice + (count - 1,) for choice in choices], key=len)


def is_choice(thing, count):
    """Whether this is a choice of so many layers."""
    if not isinstance(thing, tuple) or not all([is_integer(at) for at in thing]):
        return False
    return thing in all_choices(count)


def are_fewer(parts, kept, count):
    """Whether the keys of a dict are exactly all choices of fewer layers than those that are kept."""
    fewer = [choice for choice in all_choices(count) if len(choice) < len(kept)]
    if len(parts) != len(fewer):
        return False
    return all([is_choice(choice, count) and len(choice) < len(kept) for choice in parts])


def is_parted(stack, choice, told, shared):
    """Whether this is a key and deeds that part a stack and that of a choice."""
    if not isinstance(told, tuple) or len(told) != 2:
        return False
    key, deeds = told
    return Parts(key, deeds).shows(stack, stack.chosen(choice), shared=shared)
