"""The errors of this package."""


class LayerError(ValueError):
    """Something that this package refuses; each kind has a class of its own."""


class BadStack(LayerError):
    """Not a stack, if part is None; otherwise part tells what is wrong about one."""

    def __init__(self, part=None):
        super().__init__("not a stack, or not what a stack can be made of")
        self.part = part


class BadKey(LayerError):
    """A key is not an integer."""


class BadValue(LayerError):
    """A value is not an integer."""


class Missing(LayerError):
    """Nothing is seen at a key, which is the number."""

    def __init__(self, number):
        super().__init__("nothing is seen at this key")
        self.number = number


class BadDeed(LayerError):
    """Something is not a deed."""


class BadColumn(LayerError):
    """Something is not a column of the stack."""


class BadPromise(LayerError):
    """Something is not the word of a promise."""


class NothingDone(LayerError):
    """There is no deed that can be undone."""


class BadSteps(LayerError):
    """Not steps, if index is None; otherwise the step at this index is none."""

    def __init__(self, index=None):
        super().__init__("not a list or tuple of steps")
        self.index = index


class BadText(LayerError):
    """A text cannot be read, from the line with the index row on."""

    def __init__(self, row=0):
        super().__init__("not the text of a stack")
        self.row = row


class BadHands(LayerError):
    """Not two hands, if part is None; otherwise part tells what is wrong about them."""

    def __init__(self, part=None):
        super().__init__("not two hands, or not what they can be made of")
        self.part = part


class BadLayer(LayerError):
    """Something is not a layer."""


class BadFlag(LayerError):
    """Something is not a boolean."""
