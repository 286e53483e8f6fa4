"""A recorder that goes on, and trials of what it could do."""

from fewtuners.checks import check_receivers
from fewtuners.operations import check_operations, executed, first_state, plan_of, result_of


class Recorder:
    """A book, a listing and a time, and all operations that led to them."""

    def __init__(self, book, listing, receivers):
        check_receivers(receivers)
        # None of these three is changed in place, so that a trial can keep them as they are.
        self._state = first_state(book, listing, receivers)
        self._done = ()
        self._undone = ()

    @property
    def time(self):
        return self._state["time"]

    @property
    def recorded(self):
        return self._state["recorded"]

    @property
    def marks(self):
        return sorted(self._state["marks"])

    @property
    def history(self):
        return [operation for operation, _ in self._done]

    def book(self):
        """Return the book that there is."""
        return self._state["book"]

    def listing(self):
        """Return the listing that there is."""
        return self._state["listing"]

    def plan(self):
        """Return the recorder's own plan for what there is."""
        return plan_of(self._state)

    def add(self, name, sending):
        """Put a sending into the listing; return how many sendings the own plan has then."""
        return self._execute(("add", name, sending))

    def drop(self, name):
        """Take a sending out of the listing; return how many sendings the own plan has then."""
        return self._execute(("drop", name))

    def wish(self, rule):
        """Put a rule behind all others; return how many sendings the own plan has then."""
        return self._execute(("wish", rule))

    def unwish(self, index):
        """Take a rule out of the book; return how many sendings the own plan has then."""
        return self._execute(("unwish", index))

    def watch(self, show, episode):
        """Tell that an episode was seen; return how many sendings the own plan has then."""
        return self._execute(("watch", show, episode))

    def run(self, minute):
        """Let time go on to a minute; return how many sendings were recorded."""
        return self._execute(("run", minute))

    def mark(self, name):
        """Mark what there is with a name; return whether there was a mark with this name."""
        return self._execute(("mark", name))

    def go(self, name):
        """Return to what was marked with a name last; return how many sendings the own plan has then."""
        return self._execute(("go", name))

    def undo(self):
        """Undo the last operation that is in effect; return whether there was one."""
        if not self._done:
            return False
        operation, before = self._done[-1]
        self._state = before
        self._done = self._done[:-1]
        self._undone = self._undone + (operation,)
        return True

    def redo(self):
        """Execute the operation that was undone last once more; return whether there was one."""
        if not self._undone:
            return False
        self._perform(self._undone[-1])
        self._undone = self._undone[:-1]
        return True

    def apply_all(self, operations):
        """Execute a list of operations, all or none of them; return the list of their results."""
        check_operations(operations)
        with Trial(self) as trial:
            results = [self._apply(operation) for operation in operations]
            trial.hold()
        return results

    def tried(self, operations, keep):
        """Execute a list of operations, keep what they change only if told so; return the list of their results."""
        with Trial(self) as trial:
            results = self.apply_all(operations)
            if keep:
                trial.hold()
        return results

    @classmethod
    def replay(cls, book, listing, receivers, operations):
        """Return a recorder behind a list of operations."""
        recorder = cls(book, listing, receivers)
        recorder.apply_all(operations)
        return recorder

    def _apply(self, operation):
        """Execute an operation, undo and redo included; return its result."""
        if operation[0] == "undo":
            return self.undo()
        if operation[0] == "redo":
            return self.redo()
        return self._execute(operation)

    def _execute(self, operation):
        """Execute a new operation, behind which nothing can be redone; return its result."""
        result = self._perform(operation)
        self._undone = ()
        return result

    def _perform(self, operation):
        """Execute an operation and put it into the history; return its result."""
        before = self._state
        after = executed(before, operation)
        result = result_of(operation, before, after)
        self._state = after
        self._done = self._done + ((operation, before),)
        return result


class Trial:
    """A block at whose end a recorder is as it was at its beginning, unless it was told to hold what changed."""

    def __init__(self, recorder):
        self._recorder = recorder
        self._held = None
        self._state = None
        self._done = ()
        self._undone = ()

    def __enter__(self):
        self._held = None
        self._state = self._recorder._state
        self._done = self._recorder._done
        self._undone = self._recorder._undone
        return self

    def __exit__(self, kind, value, trace):
        recorder = self._recorder
        if self._held is None:
            recorder._state = self._state
            recorder._done = self._done
            recorder._undone = self._undone

    def hold(self):
        """Keep all that changes in the block."""
        self._held = True
