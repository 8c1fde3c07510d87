"""Writes stacks as texts, and reads only the texts that are written so."""

from layermap.errors import BadText
from layermap.kinds import HIDDEN, MOST_LAYERS, is_layer
from layermap.stacks import Stack, check_stack

NOTHING = "-"
HOOK_NUMBERS = {"0": 0, "1": 1}


def stack_text(stack):
    check_stack(stack)
    lines = [layer_line(layer) for layer in stack.layers]
    lines = lines + [key_line(key, stack.column(key)) for key in stack.held()]
    return "".join([line + "\n" for line in lines])


def read_stack(text):
    """The stack that is written so; otherwise a BadText tells the first line that is wrong."""
    if not isinstance(text, str):
        raise BadText(0)
    # Other signs that end lines elsewhere are part of a line here, which makes it wrong.
    lines = text.split("\n")
    rest = lines.pop()
    layers = leading_layers(lines)
    # Either there is no line at all, or the first one is wrong.
    if len(layers) == 0:
        raise BadText(0)
    stack = Stack(layers)
    last = None
    for row in range(len(layers), len(lines)):
        key = key_of(lines[row], len(layers))
        if key is None or (last is not None and key <= last):
            raise BadText(row)
        stack.put(key, column_of(lines[row]))
        last = key
    if rest != "":
        raise BadText(len(lines))
    return stack


def layer_line(layer):
    write, forget, read, hook = layer
    words = ["layer", write, forget, read]
    if hook is not None:
        word, number = hook
        words = words + [word, str(number)]
    return " ".join(words)


def key_line(key, column):
    return " ".join(["at", str(key)] + [word_of(held) for held in column])


def word_of(held):
    """How it is written what a layer has for a key."""
    return NOTHING if held is None else str(held)


def leading_layers(lines):
    """The tuple of the layers that stand first, as many as a stack can have."""
    layers = []
    for line in lines[:MOST_LAYERS]:
        layer = layer_of(line)
        if layer is None:
            break
        layers.append(layer)
    return tuple(layers)


def layer_of(line):
    """The layer that is written so, None if none is."""
    words = line.split(" ")
    if len(words) not in (4, 6) or words[0] != "layer":
        return None
    hook = None
    if len(words) == 6:
        hook = (words[4], HOOK_NUMBERS.get(words[5]))
    layer = (words[1], words[2], words[3], hook)
    return layer if is_layer(layer) else None


def key_of(line, count):
    """The key of a line with a key and so many layers, None if it is not such a line."""
    words = line.split(" ")
    if len(words) != count + 2 or words[0] != "at" or not is_number(words[1]):
        return None
    column = words[2:]
    if not all([is_column_word(word) for word in column]) or all([word == NOTHING for word in column]):
        return None
    return int(words[1])


def column_of(line):
    """The column in a line with a key."""
    return tuple([held_of(word) for word in line.split(" ")[2:]])


def held_of(word):
    """What a layer has that is written so."""
    if word == NOTHING:
        return None
    return HIDDEN if word == HIDDEN else int(word)


def is_column_word(word):
    return word in (NOTHING, HIDDEN) or is_number(word)


def is_number(word):
    """Whether an integer is written so, without leading zeros, and 0 without a sign."""
    digits = word[1:] if word.startswith("-") else word
    if not digits.isascii() or not digits.isdigit():
        return False
    return word == "0" or not digits.startswith("0")
