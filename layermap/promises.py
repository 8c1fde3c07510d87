"""What a stack promises, at each column that can come about in it."""

from layermap.alike import are_deeds, unheld_key
from layermap.deeds import done, done_in_turn
from layermap.errors import BadPromise
from layermap.kinds import is_column, is_integer, is_word
from layermap.search import VALUES, compared_deeds, is_closed, reached, search
from layermap.stacks import check_stack


class Kept:
    """A closed list of columns, which shows that a stack keeps a promise."""

    def __init__(self, columns):
        self.columns = list(columns)

    def __len__(self):
        return len(self.columns)

    def __iter__(self):
        return iter(self.columns)

    def __eq__(self, other):
        return isinstance(other, Kept) and self.columns == other.columns

    def shows(self, stack, promise, *, shared=True):
        check_stack(stack)
        check_promise(promise, shared)
        layers = stack.layers
        if not all([is_column(column, len(layers)) for column in self.columns]):
            return False
        starts, deeds = first_columns(stack), compared_deeds(shared)
        return is_closed(self.columns, starts, deeds, columns_after(layers), breaks(layers, promise))


class Broken:
    """A key and deeds, after which a promise is not kept at the column of the key."""

    def __init__(self, key, deeds):
        self.key = key
        self.deeds = deeds

    def __len__(self):
        return len(self.deeds)

    def __eq__(self, other):
        return isinstance(other, Broken) and self.key == other.key and self.deeds == other.deeds

    def shows(self, stack, promise, *, shared=True):
        check_stack(stack)
        check_promise(promise, shared)
        if not is_integer(self.key) or not are_deeds(self.deeds, shared):
            return False
        column = done_in_turn(stack.layers, stack.column(self.key), self.deeds)[1]
        return not is_kept(stack.layers, column, promise)


def promised(stack, promise, *, shared=True):
    """A Kept, or a Broken with as few deeds as possible."""
    check_stack(stack)
    check_promise(promise, shared)
    starts, deeds = first_columns(stack), compared_deeds(shared)
    columns, wrong = search(starts, deeds, columns_after(stack.layers), breaks(stack.layers, promise))
    if wrong is None:
        return Kept(columns)
    _, key, breaking = wrong
    return Broken(key, breaking)


def promises(stack, *, shared=True):
    """A dict from the words of all promises to whether a stack keeps them."""
    check_stack(stack)
    columns = reached(first_columns(stack), compared_deeds(shared), columns_after(stack.layers))
    return {
        word: all([is_kept(stack.layers, column, word) for column in columns]) for word in promise_words(shared)
    }


def promise_words(shared):
    """The words of all promises, in their order."""
    return [word for word in RULES if shared or word != "open"]


def check_promise(promise, shared):
    if not is_word(promise, promise_words(shared)):
        raise BadPromise("not the word of a promise")


def first_columns(stack):
    """A dict from the columns of all keys, one that no layer has too, to such a key."""
    held = stack.held()
    found = {}
    for key in held + [unheld_key(held)]:
        found.setdefault(stack.column(key), key)
    return found


def columns_after(layers):
    """A function that gives the column after a column and a deed."""
    return lambda column, deed: done(layers, column, deed)[1]


def breaks(layers, promise):
    """A function that tells whether a promise is not kept at a column."""
    return lambda column: not is_kept(layers, column, promise)


def is_kept(layers, column, promise):
    """Whether a promise is kept at a column."""
    rule = RULES[promise]
    return rule(layers, column)


def keeps_written(layers, column):
    return all([answer_after(layers, column, ("write", value), ("ask",)) == value for value in VALUES])


def keeps_gone(layers, column):
    return not answer_after(layers, column, ("forget",), ("has",))


def keeps_match(layers, column):
    found = answer_after(layers, column, ("has",), ("ask",)) is not None
    return answer_after(layers, column, ("has",)) == found


def keeps_steady(layers, column):
    return answer_after(layers, column, ("ask",)) == answer_after(layers, column, ("ask",), ("ask",))


def keeps_still(layers, column):
    return done(layers, column, ("ask",))[1] == column


def keeps_true(layers, column):
    return answer_after(layers, column, ("has",)) == answer_after(layers, column, ("has",), ("forget",))


def keeps_open(layers, column):
    return all([answer_after(layers, column, ("beneath", value), ("ask",)) == value for value in VALUES + (None,)])


def answer_after(layers, column, *deeds):
    return done_in_turn(layers, column, deeds)[0]


RULES = {
    "written": keeps_written,
    "gone": keeps_gone,
    "match": keeps_match,
    "steady": keeps_steady,
    "still": keeps_still,
    "true": keeps_true,
    "open": keeps_open,
}
