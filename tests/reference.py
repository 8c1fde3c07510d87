"""A second, plain way to do deeds, written after the words of the document.

It shares no code with the package: layers are objects that change, and
asking, writing and forgetting go from one to the next.
"""

import itertools
import random

WRITES = ("here", "down", "both")
FORGETS = ("here", "hide", "down", "both")
READS = ("look", "keep", "shut")
HOOKS = (None, ("told", 0), ("told", 1), ("made", 0), ("made", 1))
ALL_LAYERS = tuple(itertools.product(WRITES, FORGETS, READS, HOOKS))
PLAIN = ("here", "here", "look", None)
THROUGH = ("both", "both", "look", None)
CACHE = ("here", "here", "keep", None)
TOLD = ("here", "here", "look", ("told", 0))
HIDING = ("here", "hide", "look", None)
SHUT = ("here", "here", "shut", None)
IDLE = ("down", "down", "look", None)

ALONE = [("ask",), ("has",), ("write", 0), ("write", 1), ("forget",)]
SHARED = ALONE + [("beneath", 0), ("beneath", 1), ("beneath", None)]
PROMISES = ["written", "gone", "match", "steady", "still", "true", "open"]

NO_STACKS = [None, 5, True, "stack", b"stack", {}, {1: 2}, [], (), (PLAIN,), ((PLAIN,), ({},)), int, object()]
WRONG_DEEDS = [
    (), ("ask", None), ("ask", 1), ("asks",), ("write",), ("write", None), ("write", "1"), ("has", 0), (0,), (None,),
    ("beneath",), ("beneath", "x"), ("beneath", 1, 2), ("forget", None), ("write", True), ("beneath", False), ("hidden",),
]


class Level:
    """What one layer has for one key, and the level below it."""

    def __init__(self, layer, held, below):
        self.write_word, self.forget_word, self.read_word, self.hook = layer
        self.value = held if isinstance(held, int) else None
        self.hidden = held == "hidden"
        self.below = below

    def held(self):
        return "hidden" if self.hidden else self.value

    def put(self, value):
        self.value, self.hidden = value, False

    def seen(self):
        if self.value is not None:
            return self.value
        if self.hidden or self.read_word == "shut" or self.below is None:
            return None
        return self.below.seen()

    def ask(self):
        if self.value is not None:
            return self.value
        if not self.hidden and self.read_word != "shut" and self.below is not None:
            answer = self.below.ask()
            if answer is not None:
                if self.read_word == "keep":
                    self.put(answer)
                return answer
        if self.hook is None:
            return None
        if self.hook[0] == "made":
            self.write(self.hook[1])
        return self.hook[1]

    def write(self, value):
        word = "here" if self.below is None else self.write_word
        if word in ("here", "both"):
            self.put(value)
        if word in ("down", "both"):
            self.below.write(value)

    def forget(self):
        word = self.forget_word
        if self.below is None and word in ("down", "both"):
            word = "here"
        if word == "hide":
            if self.seen() is None:
                return False
            self.value, self.hidden = None, True
            return True
        answers = []
        if word in ("here", "both"):
            answers.append(self.value is not None)
            if self.value is not None:
                self.value = None
        if word in ("down", "both"):
            answers.append(self.below.forget())
        return any(answers)


class Column:
    """The levels of a stack at one key, perhaps above a base that is there already."""

    def __init__(self, layers, column, base=None):
        self.levels = [] if base is None else [base]
        for layer, held in zip(reversed(layers), reversed(column)):
            self.levels.insert(0, Level(layer, held, self.levels[0] if self.levels else None))

    def held(self):
        return tuple(level.held() for level in self.levels)

    def seen(self):
        return self.levels[0].seen()

    def do(self, deed):
        word, *rest = deed
        if word == "ask":
            return self.levels[0].ask()
        if word == "has":
            return self.levels[0].seen() is not None
        if word == "write":
            return self.levels[0].write(*rest)
        if word == "forget":
            return self.levels[0].forget()
        self.levels[-1].put(*rest)
        return None


def after(layers, column, deed):
    """The answer to a deed, and the column after it."""
    levels = Column(layers, column)
    return levels.do(deed), levels.held()


def answers(layers, column, deeds):
    levels = Column(layers, column)
    return [levels.do(deed) for deed in deeds]


def closed(one, other, pairs, shared):
    """Whether pairs show that two stacks, given as layers and columns by key, are alike."""
    for key in [*one[1], *other[1], None]:
        blank, empty = (None,) * len(one[0]), (None,) * len(other[0])
        if (one[1].get(key, blank), other[1].get(key, empty)) not in pairs:
            return False
    for first, second in pairs:
        for deed in SHARED if shared else ALONE:
            answer, column = after(one[0], first, deed)
            reply, opposite = after(other[0], second, deed)
            if answer != reply or (column, opposite) not in pairs:
                return False
    return True


def least(one, other, starts, deeds, most):
    """The least number of deeds, up to a most, that part two stacks from pairs of columns on."""
    for count in range(1, most + 1):
        for some in itertools.product(deeds, repeat=count):
            for first, second in starts:
                if answers(one, first, some)[-1] != answers(other, second, some)[-1]:
                    return count
    return None


def distance(one, other, starts, deeds):
    """The least number of deeds that part two stacks from pairs of columns on, None if no deeds do."""
    known, turn, count = set(starts), list(starts), 0
    while turn:
        count, later = count + 1, []
        for first, second in turn:
            for deed in deeds:
                answer, column = after(one, first, deed)
                reply, opposite = after(other, second, deed)
                if answer != reply:
                    return count
                if (column, opposite) not in known:
                    known.add((column, opposite))
                    later.append((column, opposite))
        turn = later
    return None


def reachable(layers, starts, deeds):
    """All columns that come about by deeds from some on."""
    known, turn = set(starts), list(starts)
    while turn:
        column = turn.pop()
        for deed in deeds:
            later = after(layers, column, deed)[1]
            if later not in known:
                known.add(later)
                turn.append(later)
    return known


def keeps(layers, column, word, values):
    """Whether a promise is kept at a column, for these values, and None where it may stand beneath."""
    def last(*deeds):
        return answers(layers, column, deeds)[-1]

    if word == "written":
        return all(last(("write", value), ("ask",)) == value for value in values)
    if word == "gone":
        return last(("forget",), ("has",)) is False
    if word == "match":
        has, found = answers(layers, column, [("has",), ("ask",)])
        return has is (found is not None)
    if word == "steady":
        first, second = answers(layers, column, [("ask",), ("ask",)])
        return first == second
    if word == "still":
        return after(layers, column, ("ask",))[1] == column
    if word == "true":
        has, forgotten = answers(layers, column, [("has",), ("forget",)])
        return has is forgotten
    return all(last(("beneath", value), ("ask",)) == value for value in [*values, None])


class Place:
    """The levels of two hands at one key: their columns share the level of the base."""

    def __init__(self, hands, place=None):
        first, second, base = hands
        held = place or ((None,) * len(first), (None,) * len(second), None)
        self.base = Level(base, held[2], None)
        self.sides = [Column(first, held[0], self.base), Column(second, held[1], self.base)]

    def held(self):
        return (*(side.held()[:-1] for side in self.sides), self.base.held())

    def do(self, step):
        hand, deed = step
        return self.sides[hand].do(deed)


STEPS = [(hand, deed) for hand in (0, 1) for deed in ALONE]
WORDS = ["agreed", "passed", "taken", "quiet", "own"]


def place_behind(hands, place, steps):
    """The answers to steps from a place on, and the place behind them."""
    levels = Place(hands, place)
    return [levels.do(step) for step in steps], levels.held()


def holds(hands, place, word, values):
    """Whether a word is kept at a place, for these values."""
    def last(*steps):
        return place_behind(hands, place, steps)[0][-1]

    if word == "agreed":
        return last((0, ("ask",))) == last((1, ("ask",)))
    for this, other in ((0, 1), (1, 0)):
        if word == "taken" and last((this, ("forget",)), (other, ("has",))) is not False:
            return False
        if word == "quiet" and last((other, ("ask",))) != last((this, ("ask",)), (other, ("ask",))):
            return False
        for value in values:
            if word == "passed" and last((this, ("write", value)), (other, ("ask",))) != value:
                return False
            if word == "own" and last((this, ("write", value)), (other, ("ask",)), (this, ("ask",))) != value:
                return False
    return True


def places_by_steps(hands, steps):
    """A dict from all places that come about by steps to the least number of these."""
    blank = Place(hands).held()
    known, turn, count = {blank: 0}, [blank], 0
    while turn:
        count, later = count + 1, []
        for place in turn:
            for step in steps:
                behind = place_behind(hands, place, [step])[1]
                if behind not in known:
                    known[behind] = count
                    later.append(behind)
        turn = later
    return known


def poured(layers, column):
    """The column behind leaving a scope with these layers, and pouring what its first layer has."""
    below = Column(layers[1:], column[1:])
    if column[0] == "hidden":
        below.do(("forget",))
    elif column[0] is not None:
        below.do(("write", column[0]))
    return below.held()


def betrayed(layers, layer, column, deeds):
    """Whether the last answers differ, and whether the columns do behind pouring, if deeds are done at a column."""
    scope, itself = Column((layer, *layers), (None, *column)), Column(layers, column)
    last = [(scope.do(deed), itself.do(deed)) for deed in deeds][-1:]
    return any(one != other for one, other in last), poured((layer, *layers), scope.held()) != itself.held()


def betrayal(layers, layer, starts, deeds):
    """The least number of deeds that show that a layer is not faithful, None if it is."""
    turn = [((None, *column), column) for column in starts]
    known, count, whole = set(turn), 0, (layer, *layers)
    while turn:
        if any(poured(whole, scope) != itself for scope, itself in turn):
            return count
        later = []
        for scope, itself in turn:
            for deed in deeds:
                answer, above = after(whole, scope, deed)
                reply, column = after(layers, itself, deed)
                if answer != reply:
                    return count + 1
                if (above, column) not in known:
                    known.add((above, column))
                    later.append((above, column))
        turn, count = later, count + 1
    return None


def chance(seed):
    """The same numbers in each run."""
    return random.Random(seed)


def any_layers(numbers, count):
    return tuple(numbers.choice(ALL_LAYERS) for _ in range(count))


def any_contents(numbers, count, most=3):
    held = [None, "hidden", 0, 1, 7, -3]
    found = tuple({} for _ in range(count))
    for key in range(numbers.randrange(most)):
        for content in found:
            some = numbers.choice(held)
            if some is not None:
                content[key] = some
    return found


def sampled_stacks(seed, count):
    """Layers and what they have: any, and often such as do little or what many stacks do."""
    numbers = chance(seed)
    usual = [PLAIN, THROUGH, CACHE, HIDING, SHUT, IDLE, TOLD]
    for _ in range(count):
        many = numbers.randrange(1, 4)
        layers = tuple(numbers.choice(usual if numbers.randrange(3) else ALL_LAYERS) for _ in range(many))
        yield layers, ({},) * many if numbers.randrange(3) == 0 else any_contents(numbers, many)


def columns(contents):
    """The columns of the keys at which any layer has something."""
    keys = sorted({key for content in contents for key in content})
    return {key: tuple(content.get(key) for content in contents) for key in keys}


def starts(one, other, contents, opposite):
    """The pairs of columns of all keys of two stacks, also of one that no layer has."""
    first, second = columns(contents), columns(opposite)
    blank, empty = (None,) * len(one), (None,) * len(other)
    return [(first.get(key, blank), second.get(key, empty)) for key in [*first, *second, None]]
