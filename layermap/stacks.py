"""Stacks of layers, and the deeds that are done with them."""

from layermap.deeds import done, seen
from layermap.errors import BadDeed, BadKey, BadStack, BadValue, Missing
from layermap.kinds import MOST_LAYERS, are_contents, are_layers, are_pairs, is_deed, is_integer

PLAIN_LAYER = ("here", "here", "look", None)


def check_key(key):
    if not is_integer(key):
        raise BadKey("a key is an integer")


def check_stack(stack):
    if not isinstance(stack, Stack):
        raise BadStack(None)


def columns_of(contents):
    """A dict from the keys at which any layer has something to their columns."""
    found = sorted({key for content in contents for key in content})
    return {key: tuple([content.get(key) for content in contents]) for key in found}


class Stack:
    """One to three layers, the last of which is the base, with what they have."""

    def __init__(self, layers, contents=None):
        if not are_layers(layers, 1, MOST_LAYERS):
            raise BadStack("LAYERS")
        if contents is None:
            contents = ({},) * len(layers)
        if not are_contents(contents, len(layers)):
            raise BadStack("CONTENTS")
        self._layers = layers
        self._columns = columns_of(contents)

    @classmethod
    def of(cls, *layers):
        return cls(layers)

    @classmethod
    def plain(cls, pairs):
        return cls((PLAIN_LAYER,), (pairs,))

    @property
    def layers(self):
        return self._layers

    def __eq__(self, other):
        return isinstance(other, Stack) and self._layers == other._layers and self._columns == other._columns

    def __iter__(self):
        raise TypeError("a stack cannot be iterated over")

    def __len__(self):
        return len(self.visible())

    def __contains__(self, key):
        return seen(self._layers, self.column(key), 0) is not None

    def __getitem__(self, key):
        value = seen(self._layers, self.column(key), 0)
        if value is None:
            raise Missing(key)
        return value

    def __setitem__(self, key, value):
        check_key(key)
        if not is_integer(value):
            raise BadValue("a value is an integer")
        self._deed(key, ("write", value))

    def __ior__(self, pairs):
        if not are_pairs(pairs):
            raise BadStack("CONTENTS")
        for key, value in pairs.items():
            self._deed(key, ("write", value))
        return self

    def __add__(self, other):
        if not isinstance(other, Stack):
            return NotImplemented
        return Stack(self._layers + other._layers, self._contents() + other._contents())

    def visible(self):
        """The keys at which something is seen, ascending."""
        return [key for key in self.held() if key in self]

    def held(self):
        """The keys at which any layer has something, ascending."""
        return sorted(list(self._columns))

    def column(self, key):
        check_key(key)
        return self._columns.get(key, (None,) * len(self._layers))

    def ask(self, key):
        return self._deed(key, ("ask",))

    def forget(self, key):
        return self._deed(key, ("forget",))

    def beneath(self, key, value):
        check_key(key)
        if value is not None and not is_integer(value):
            raise BadValue("what the base has then is an integer or None")
        return self._deed(key, ("beneath", value))

    def do(self, key, *deeds):
        check_key(key)
        if not all([is_deed(deed) for deed in deeds]):
            raise BadDeed("not a deed")
        answers = []
        for deed in deeds:
            answers.append(self._deed(key, deed))
        return answers

    def twin(self):
        return Stack(self._layers, self._contents())

    def chosen(self, choice):
        """A stack of the layers at the indices of a choice, with what they have."""
        contents = self._contents()
        return Stack(tuple([self._layers[at] for at in choice]), tuple([contents[at] for at in choice]))

    def _contents(self):
        """What each layer has, as the stack could be made of it again."""
        columns = self._columns
        return tuple([
            {key: column[at] for key, column in columns.items() if column[at] is not None}
            for at in range(len(self._layers))
        ])

    def put(self, key, column):
        """Lets a key have this column."""
        # A key that no layer has any more must not tell this stack from another one.
        if column == (None,) * len(column):
            self._columns.pop(key, None)
        else:
            self._columns[key] = column

    def restoring(self, work, given):
        """What a function returns that is called with what is given; afterwards, all columns are as before."""
        columns = self._columns
        self._columns = dict(columns)
        try:
            return work(given)
        finally:
            self._columns = columns

    def _deed(self, key, deed):
        answer, column = done(self._layers, self.column(key), deed)
        self.put(key, column)
        return answer


def flat(stack):
    """The stack with one plain layer that has what is seen in a stack."""
    check_stack(stack)
    return Stack.plain({key: stack[key] for key in stack.visible()})
