"""What a stack promises, at each column that can come about in it."""

from layermap.alike import are_deeds, compared_deeds, unheld_key
from layermap.deeds import done, done_in_turn
from layermap.errors import BadPromise
from layermap.kinds import is_column, is_integer, is_word
from layermap.stacks import check_stack

# Values are only passed on: a promise that is kept for these is kept for all values.
VALUES = (0, 1)


class Kept:
    """A closed list of columns, which shows that a stack keeps a promise."""

    def __init__(self, columns):
        self.columns = list(columns)

    def __len__(self):
        return len(self.columns)

    def __iter__(self):
        return iter(self.columns)

    def __eq__(self, other):
        return isinstance(other, Kept) and self.columns == other.columns

    def shows(self, stack, promise, *, shared=True):
        check_stack(stack)
        check_promise(promise, shared)
        layers = stack.layers
        if not all([is_column(column, len(layers)) for column in self.columns]):
            return False
        listed = {column: True for column in self.columns}
        if not all([column in listed for column in first_columns(stack)]):
            return False
        deeds = compared_deeds(shared)
        if not all([done(layers, column, deed)[1] in listed for column in listed for deed in deeds]):
            return False
        return all([is_kept(layers, column, promise) for column in listed])


class Broken:
    """A key and deeds, after which a promise is not kept at the column of the key."""

    def __init__(self, key, deeds):
        self.key = key
        self.deeds = deeds

    def __len__(self):
        return len(self.deeds)

    def __eq__(self, other):
        return isinstance(other, Broken) and self.key == other.key and self.deeds == other.deeds

    def shows(self, stack, promise, *, shared=True):
        check_stack(stack)
        check_promise(promise, shared)
        if not is_integer(self.key) or not are_deeds(self.deeds, shared):
            return False
        column = done_in_turn(stack.layers, stack.column(self.key), self.deeds)[1]
        return not is_kept(stack.layers, column, promise)


def promised(stack, promise, *, shared=True):
    """A Kept, or a Broken with as few deeds as possible."""
    check_stack(stack)
    check_promise(promise, shared)
    ways = reached(stack, compared_deeds(shared))
    for column, (key, deeds) in ways.items():
        if not is_kept(stack.layers, column, promise):
            return Broken(key, deeds)
    return Kept(list(ways))


def promises(stack, *, shared=True):
    """A dict from the words of all promises to whether a stack keeps them."""
    check_stack(stack)
    columns = list(reached(stack, compared_deeds(shared)))
    return {
        word: all([is_kept(stack.layers, column, word) for column in columns]) for word in promise_words(shared)
    }


def promise_words(shared):
    """The words of all promises, in their order."""
    return [word for word in RULES if shared or word != "open"]


def check_promise(promise, shared):
    if not is_word(promise, promise_words(shared)):
        raise BadPromise("not the word of a promise")


def first_columns(stack):
    """A dict from the columns of all keys, one that no layer has too, to such a key."""
    held = stack.held()
    found = {}
    for key in held + [unheld_key(held)]:
        found.setdefault(stack.column(key), key)
    return found


def reached(stack, deeds):
    """A dict from all columns that come about to a key and as few deeds as possible at it.

    The columns that need fewer deeds stand first.
    """
    ways = {column: (key, ()) for column, key in first_columns(stack).items()}
    columns = list(ways)
    at = 0
    while at < len(columns):
        key, before = ways[columns[at]]
        for deed in deeds:
            after = done(stack.layers, columns[at], deed)[1]
            if after not in ways:
                ways[after] = (key, before + (deed,))
                columns.append(after)
        at += 1
    return ways


def is_kept(layers, column, promise):
    """Whether a promise is kept at a column."""
    rule = RULES[promise]
    return rule(layers, column)


def keeps_written(layers, column):
    return all([answer_after(layers, column, ("write", value), ("ask",)) == value for value in VALUES])


def keeps_gone(layers, column):
    return not answer_after(layers, column, ("forget",), ("has",))


def keeps_match(layers, column):
    found = answer_after(layers, column, ("has",), ("ask",)) is not None
    return answer_after(layers, column, ("has",)) == found


def keeps_steady(layers, column):
    return answer_after(layers, column, ("ask",)) == answer_after(layers, column, ("ask",), ("ask",))


def keeps_still(layers, column):
    return done(layers, column, ("ask",))[1] == column


def keeps_true(layers, column):
    return answer_after(layers, column, ("has",)) == answer_after(layers, column, ("has",), ("forget",))


def keeps_open(layers, column):
    return all([answer_after(layers, column, ("beneath", value), ("ask",)) == value for value in VALUES + (None,)])


def answer_after(layers, column, *deeds):
    return done_in_turn(layers, column, deeds)[0]


RULES = {
    "written": keeps_written,
    "gone": keeps_gone,
    "match": keeps_match,
    "steady": keeps_steady,
    "still": keeps_still,
    "true": keeps_true,
    "open": keeps_open,
}
