"""Two hands with layers of their own on one base, and what they can rely on."""

from layermap.deeds import done
from layermap.errors import BadHands, BadPromise
from layermap.kinds import are_layers, is_column, is_layer, is_word
from layermap.search import OWN_DEEDS, VALUES, is_closed, reached, search
from layermap.steps import check_steps, is_hand_step

WORDS = ("agreed", "passed", "taken", "quiet", "own")
BOTH = (0, 1)
MOST_OWN_LAYERS = 2


class Hands:
    """The layers of two hands, and the base below both of them."""

    def __init__(self, first, second, base):
        if not are_layers(first, 0, MOST_OWN_LAYERS):
            raise BadHands("first")
        if not are_layers(second, 0, MOST_OWN_LAYERS):
            raise BadHands("second")
        if not is_layer(base):
            raise BadHands("base")
        self.first = first
        self.second = second
        self.base = base

    def __eq__(self, other):
        if not isinstance(other, Hands):
            return False
        return self.first == other.first and self.second == other.second and self.base == other.base


class Together:
    """A closed list of places, which shows that two hands keep a word."""

    def __init__(self, places):
        self.places = list(places)

    def __eq__(self, other):
        return isinstance(other, Together) and self.places == other.places

    def shows(self, hands, word):
        check_hands(hands)
        check_word(word)
        if not all([is_place(place, hands) for place in self.places]):
            return False
        return is_closed(self.places, first_places(hands), all_steps(), places_after(hands), breaks(hands, word))


class Asunder:
    """Steps, after which a word is not kept."""

    def __init__(self, steps):
        self.steps = tuple(steps)

    def __eq__(self, other):
        return isinstance(other, Asunder) and self.steps == other.steps

    def shows(self, hands, word):
        check_hands(hands)
        check_word(word)
        if not all([is_hand_step(step) for step in self.steps]):
            return False
        return not is_kept(hands, done_by(hands, blank_place(hands), self.steps)[1], word)


def answers(hands, steps):
    """The list of the answers to steps at one key, at which no layer has anything at first."""
    check_hands(hands)
    check_steps(steps, is_hand_step)
    return done_by(hands, blank_place(hands), steps)[0]


def place_after(hands, steps):
    """The place behind steps at one key, at which no layer has anything at first."""
    check_hands(hands)
    check_steps(steps, is_hand_step)
    return done_by(hands, blank_place(hands), steps)[1]


def together(hands, word):
    """A Together, or an Asunder with as few steps as possible."""
    check_hands(hands)
    check_word(word)
    places, wrong = search(first_places(hands), all_steps(), places_after(hands), breaks(hands, word))
    return Together(places) if wrong is None else Asunder(wrong[2])


def least_steps(hands, word):
    """The least number of steps after which a word is not kept, None if it always is."""
    found = together(hands, word)
    return len(found.steps) if isinstance(found, Asunder) else None


def words_kept(hands):
    """A dict from the five words to whether they are kept."""
    check_hands(hands)
    places = reached(first_places(hands), all_steps(), places_after(hands))
    return {word: all([is_kept(hands, place, word) for place in places]) for word in WORDS}


def check_hands(hands):
    if not isinstance(hands, Hands):
        raise BadHands(None)


def check_word(word):
    if not is_word(word, WORDS):
        raise BadPromise("not one of the words")


def is_place(thing, hands):
    if not isinstance(thing, tuple) or len(thing) != 3:
        return False
    first, second, held = thing
    return is_column(first, len(hands.first)) and is_column(second, len(hands.second)) and is_column((held,), 1)


def blank_place(hands):
    """The place at which no layer has anything."""
    return (None,) * len(hands.first), (None,) * len(hands.second), None


def first_places(hands):
    """What a search starts with; at which key it is does not matter, so it is any integer."""
    return {blank_place(hands): 0}


def all_steps():
    """The deeds of both hands that lead from place to place."""
    return [(hand, deed) for hand in BOTH for deed in OWN_DEEDS]


def places_after(hands):
    """A function that gives the place after a place and a step."""
    return lambda place, step: stepped(hands, place, step)[1]


def breaks(hands, word):
    """A function that tells whether a word is not kept at a place."""
    return lambda place: not is_kept(hands, place, word)


def stepped(hands, place, step):
    """The answer to a step, and the place after it."""
    hand, deed = step
    first, second, held = place
    if hand == 0:
        answer, column = done(hands.first + (hands.base,), first + (held,), deed)
        return answer, (column[:-1], second, column[-1])
    answer, column = done(hands.second + (hands.base,), second + (held,), deed)
    return answer, (first, column[:-1], column[-1])


def done_by(hands, place, steps):
    """The list of the answers to steps from a place on, and the place behind them."""
    found = []
    for step in steps:
        answer, place = stepped(hands, place, step)
        found.append(answer)
    return found, place


def last_answer(hands, place, *steps):
    """The answer to the last one of steps that are done from a place on."""
    return done_by(hands, place, steps)[0][-1]


def is_kept(hands, place, word):
    """Whether a word is kept at a place."""
    rule = RULES[word]
    return rule(hands, place)


def keeps_agreed(hands, place):
    return last_answer(hands, place, (0, ("ask",))) == last_answer(hands, place, (1, ("ask",)))


def keeps_passed(hands, place):
    return all([
        last_answer(hands, place, (hand, ("write", value)), (1 - hand, ("ask",))) == value
        for hand in BOTH for value in VALUES
    ])


def keeps_taken(hands, place):
    return not any([last_answer(hands, place, (hand, ("forget",)), (1 - hand, ("has",))) for hand in BOTH])


def keeps_quiet(hands, place):
    return all([
        last_answer(hands, place, (hand, ("ask",))) == last_answer(hands, place, (1 - hand, ("ask",)), (hand, ("ask",)))
        for hand in BOTH
    ])


def keeps_own(hands, place):
    return all([
        last_answer(hands, place, (hand, ("write", value)), (1 - hand, ("ask",)), (hand, ("ask",))) == value
        for hand in BOTH for value in VALUES
    ])


RULES = {
    "agreed": keeps_agreed,
    "passed": keeps_passed,
    "taken": keeps_taken,
    "quiet": keeps_quiet,
    "own": keeps_own,
}
