"""Which columns of a stack can be told apart by what is done with them, and by which deeds."""

from layermap.alike import can_part, compared, count_of_deeds
from layermap.deeds import done, done_in_turn
from layermap.errors import BadColumn
from layermap.kinds import is_column, is_integer
from layermap.search import compared_deeds
from layermap.stacks import check_stack

HELD = (None, "hidden", 0, 1)


class Classes:
    """Groups of columns that cannot be told apart, with deeds that tell apart each two of the groups."""

    def __init__(self, groups, tests):
        self.groups = [list(group) for group in groups]
        self.tests = {pair: tests[pair] for pair in tests}

    def __len__(self):
        return len(self.groups)

    def __iter__(self):
        return iter(self.groups)

    def __eq__(self, other):
        return isinstance(other, Classes) and self.groups == other.groups and self.tests == other.tests

    def shows(self, stack, *, shared=True):
        check_stack(stack)
        layers = stack.layers
        if not are_groups(self.groups, len(layers)):
            return False
        if not are_closed(self.groups, layers, compared_deeds(shared)):
            return False
        return are_tests(self.tests, [group[0] for group in self.groups], layers, shared)


def classes(stack, *, shared=True):
    """The Classes of a stack, with as few groups, and as few deeds for each two of them, as possible."""
    check_stack(stack)
    deeds = compared_deeds(shared)
    answers, afters = {}, {}
    for column in all_columns(len(stack.layers)):
        moves = [done(stack.layers, column, deed) for deed in deeds]
        answers[column] = tuple([move[0] for move in moves])
        afters[column] = [move[1] for move in moves]
    levels = levels_of(answers, afters)
    groups = grouped(levels[-1])
    tests = {}
    for high, group in enumerate(groups):
        for low in range(high):
            turns = parting_turns(answers, afters, levels, groups[low][0], group[0])
            tests[(low, high)] = tuple([deeds[turn] for turn in turns])
    return Classes(groups, tests)


def apart(stack, one, other, *, shared=True):
    """The least number of deeds that tell two columns of a stack apart, None if no deeds do."""
    check_stack(stack)
    if not all([is_column(column, len(stack.layers)) for column in (one, other)]):
        raise BadColumn("not a column of this stack")
    # At which key the deeds are done does not matter: it is any integer.
    return count_of_deeds(compared(stack, stack, {(one, other): 0}, compared_deeds(shared)))


def all_columns(count):
    """The columns of so many layers, in their order."""
    columns = [()]
    for _ in range(count):
        columns = [column + (held,) for column in columns for held in HELD]
    return columns


def levels_of(answers, afters):
    """A list of dicts from columns to numbers.

    In the dict at index n, columns have different numbers exactly if at most
    n + 1 deeds tell them apart; in the last one, if any deeds do.
    """
    levels = [numbered(answers)]
    while True:
        level = levels[-1]
        finer = numbered({
            column: (level[column], tuple([level[after] for after in afters[column]])) for column in afters
        })
        if finer == level:
            return levels
        levels.append(finer)


def numbered(signs):
    """A dict with the same keys to numbers, which are the same where the signs are."""
    numbers = {}
    # The first sign is 0, the next other one 1: so the same division always gives the same numbers.
    for key in signs:
        numbers.setdefault(signs[key], len(numbers))
    return {key: numbers[signs[key]] for key in signs}


def grouped(level):
    """The columns that have the same number, in a list for each number."""
    groups = {}
    for column, number in level.items():
        groups.setdefault(number, []).append(column)
    return list(groups.values())


def parting_turns(answers, afters, levels, one, other):
    """The indices of as few deeds as possible that tell two columns apart."""
    at = first_difference([some[one] for some in levels], [some[other] for some in levels])
    turns = []
    for level in levels[:at][::-1]:
        turn = first_difference([level[after] for after in afters[one]], [level[after] for after in afters[other]])
        turns.append(turn)
        one, other = afters[one][turn], afters[other][turn]
    return turns + [first_difference(answers[one], answers[other])]


def first_difference(one, other):
    """The first index at which two sequences, which are not the same, differ."""
    at = 0
    while one[at] == other[at]:
        at += 1
    return at


def are_groups(groups, count):
    """Whether none of these lists is empty, and each column of so many layers is in them exactly once."""
    columns = [column for group in groups for column in group]
    if not all([len(group) > 0 for group in groups]) or not all([is_column(column, count) for column in columns]):
        return False
    listed = {column: True for column in columns}
    wanted = all_columns(count)
    return len(columns) == len(wanted) and all([column in listed for column in wanted])


def are_closed(groups, layers, deeds):
    """Whether the columns of each group have the same answer to each deed, and are in one group after it."""
    places = {column: at for at, group in enumerate(groups) for column in group}
    return all([moves_as_one(group, places, layers, deed) for group in groups for deed in deeds])


def moves_as_one(group, places, layers, deed):
    moves = [done(layers, column, deed) for column in group]
    return len({(answer, places[after]) for answer, after in moves}) == 1


def are_tests(tests, firsts, layers, shared):
    """Whether a dict has, for exactly all pairs of the first columns of groups, deeds that tell them apart."""
    pairs = [(low, high) for high in range(len(firsts)) for low in range(high)]
    if len(tests) != len(pairs) or not all([pair in tests for pair in pairs]):
        return False
    if not all([is_integer(at) for pair in tests for at in pair]):
        return False
    return all([tells_apart(tests[low, high], firsts[low], firsts[high], layers, shared) for low, high in pairs])


def tells_apart(deeds, one, other, layers, shared):
    """Whether these are deeds to the last of which two columns have different answers."""
    if not can_part(deeds, shared):
        return False
    return done_in_turn(layers, one, deeds)[0] != done_in_turn(layers, other, deeds)[0]
