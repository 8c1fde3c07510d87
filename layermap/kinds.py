"""Tells layers, contents, columns and deeds from what is none."""

HIDDEN = "hidden"
WRITES = ("here", "down", "both")
FORGETS = ("here", "hide", "down", "both")
READS = ("look", "keep", "shut")
HOOKS = ("told", "made")
BARE_DEEDS = ("ask", "has", "forget")
MOST_LAYERS = 3


def is_integer(thing):
    return isinstance(thing, int) and not isinstance(thing, bool)


def is_word(thing, words):
    return isinstance(thing, str) and thing in words


def is_hook(thing):
    if thing is None:
        return True
    if not isinstance(thing, tuple) or len(thing) != 2:
        return False
    word, number = thing
    return is_word(word, HOOKS) and is_integer(number) and number in (0, 1)


def is_layer(thing):
    if not isinstance(thing, tuple) or len(thing) != 4:
        return False
    write, forget, read, hook = thing
    return is_word(write, WRITES) and is_word(forget, FORGETS) and is_word(read, READS) and is_hook(hook)


def are_layers(thing, least, most):
    """Whether this is a tuple of so many layers."""
    if not isinstance(thing, tuple) or not least <= len(thing) <= most:
        return False
    return all([is_layer(layer) for layer in thing])


def is_held(thing):
    """Whether a layer can have this for a key, other than nothing."""
    return is_integer(thing) or is_word(thing, (HIDDEN,))


def are_pairs(thing):
    """Whether this is a dict from keys to values."""
    if not isinstance(thing, dict):
        return False
    return all([is_integer(key) and is_integer(value) for key, value in thing.items()])


def is_content(thing):
    """Whether this is a dict from keys to what a layer can have for them."""
    if not isinstance(thing, dict):
        return False
    return all([is_integer(key) and is_held(held) for key, held in thing.items()])


def are_contents(thing, count):
    if not isinstance(thing, tuple) or len(thing) != count:
        return False
    return all([is_content(content) for content in thing])


def is_column(thing, count):
    if not isinstance(thing, tuple) or len(thing) != count:
        return False
    return all([held is None or is_held(held) for held in thing])


def is_deed(thing):
    if not isinstance(thing, tuple) or not 1 <= len(thing) <= 2:
        return False
    if len(thing) == 1:
        return is_word(thing[0], BARE_DEEDS)
    word, value = thing
    if is_word(word, ("write",)):
        return is_integer(value)
    return is_word(word, ("beneath",)) and (value is None or is_integer(value))
