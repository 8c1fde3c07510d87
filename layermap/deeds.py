"""What deeds answer at a column, and the column after them.

A column is never changed: each deed gives a new one. So the same functions
serve a stack and the search through all that can become of a column.
"""

from layermap.kinds import HIDDEN

WRITE = 0
FORGET = 1
READ = 2
HOOK = 3


def done(layers, column, deed):
    """The answer to a deed, and the column after it."""
    word = deed[0]
    if word == "ask":
        return asked(layers, column, 0)
    if word == "has":
        return seen(layers, column, 0) is not None, column
    if word == "write":
        return None, written(layers, column, 0, deed[1])
    if word == "forget":
        return forgotten(layers, column, 0)
    return None, placed(column, len(column) - 1, deed[1])


def done_in_turn(layers, column, deeds):
    """The answer to the last one of deeds, None if there are none, and the column after them."""
    answer = None
    for deed in deeds:
        answer, column = done(layers, column, deed)
    return answer, column


def placed(column, at, held):
    return column[:at] + (held,) + column[at + 1:]


def is_base(column, at):
    return at == len(column) - 1


def looks_down(layers, column, at):
    """Whether a layer goes to the next one for what it does not have itself."""
    return column[at] is None and layers[at][READ] != "shut" and not is_base(column, at)


def seen(layers, column, at):
    """The value that is seen from a layer on, or None."""
    if looks_down(layers, column, at):
        return seen(layers, column, at + 1)
    return None if column[at] == HIDDEN else column[at]


def asked(layers, column, at):
    """The answer of a layer that is asked, and the column after it."""
    if looks_down(layers, column, at):
        answer, after = asked(layers, column, at + 1)
        if answer is not None:
            return answer, kept(layers, after, at, answer)
    elif column[at] is not None and column[at] != HIDDEN:
        return column[at], column
    return hooked(layers, column, at)


def kept(layers, column, at, value):
    """The column after a layer has found a value beneath it."""
    return placed(column, at, value) if layers[at][READ] == "keep" else column


def hooked(layers, column, at):
    """What a layer answers that has found no value, and the column after it."""
    hook = layers[at][HOOK]
    if hook is None:
        return None, column
    word, number = hook
    if word == "made":
        column = written(layers, column, at, number)
    return number, column


def written(layers, column, at, value):
    """The column after a value is written from a layer on."""
    word = layers[at][WRITE]
    if word == "here" or is_base(column, at):
        return placed(column, at, value)
    if word == "both":
        column = placed(column, at, value)
    return written(layers, column, at + 1, value)


def forgotten(layers, column, at):
    """Whether a key is forgotten from a layer on, and the column after it."""
    word = layers[at][FORGET]
    if word == "hide":
        if seen(layers, column, at) is None:
            return False, column
        return True, placed(column, at, HIDDEN)
    if word == "here" or is_base(column, at):
        return removed(column, at)
    if word == "down":
        return forgotten(layers, column, at + 1)
    first, column = removed(column, at)
    second, column = forgotten(layers, column, at + 1)
    return first or second, column


def removed(column, at):
    """Whether a layer has a value, and the column without it."""
    if column[at] is None or column[at] == HIDDEN:
        return False, column
    return True, placed(column, at, None)
