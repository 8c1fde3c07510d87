"""Sessions, in which deeds can be undone, branched and attempted; views of the keys of a stack."""

from layermap.errors import NothingDone
from layermap.stacks import check_stack
from layermap.steps import check_steps, is_key_step

MOST_STEPS = 20


class Keys:
    """A view of the keys at which something is seen in a stack, as they are whenever it is looked at."""

    def __init__(self, stack):
        check_stack(stack)
        self._stack = stack

    def __len__(self):
        return len(self._stack)

    def __contains__(self, key):
        return key in self._stack

    def listed(self):
        """The keys, ascending."""
        return self._stack.visible()

    def seen(self):
        """What is seen at the keys, in their order."""
        return [self._stack[key] for key in self._stack.visible()]


class Session:
    """A stack of its own, with a journal of all deeds that were done with it."""

    def __init__(self, stack):
        check_stack(stack)
        # This stays the same object, since views look at it.
        self._stack = stack.twin()
        # These two grow as new tuples, so an attempt, or a loop over the session, keeps them as they were.
        self._journal = ()
        self._befores = ()
        self._undoable_from = 0

    @property
    def journal(self):
        return list(self._journal)

    def __len__(self):
        return len(self._journal)

    def __iter__(self):
        return iter(self._journal)

    def do(self, key, deed):
        before = self._stack.column(key)
        answer = self._stack.do(key, deed)[0]
        self._journal = self._journal + ((key, deed, answer),)
        self._befores = self._befores + (before,)
        return answer

    def view(self):
        return Keys(self._stack)

    def stack(self):
        """An independent stack, as that of the session is now."""
        return self._stack.twin()

    def undo(self):
        """Takes back the last deed, and returns the pair of its key and the deed."""
        if len(self._journal) == self._undoable_from:
            raise NothingDone("there is no deed that can be undone here")
        key, deed, _ = self._journal[-1]
        self._stack.put(key, self._befores[-1])
        self._journal = self._journal[:-1]
        self._befores = self._befores[:-1]
        return key, deed

    def branch(self):
        """An independent session in which everything is the same, and all deeds can be undone."""
        other = Session(self._stack)
        other._journal, other._befores = self._journal, self._befores
        return other

    def attempt(self, work):
        """What a function returns that is called with this session; afterwards, everything is as before."""
        journal, befores, undoable_from = self._journal, self._befores, self._undoable_from
        self._undoable_from = len(journal)
        try:
            return self._stack.restoring(work, self)
        finally:
            self._journal, self._befores = journal, befores
            self._undoable_from = undoable_from

    def tried(self, steps):
        """The answers to deeds that are done in an attempt."""
        check_steps(steps, is_key_step, MOST_STEPS)
        return self.attempt(lambda session: [session.do(key, deed) for key, deed in steps])
