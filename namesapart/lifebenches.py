"""Benches, on which a journey is made, taken back and made again."""

from namesapart.errors import NothingToRedo, NothingToUndo
from namesapart.lifejourneys import is_at_end, need_steps_on, work_behind_all, works_along, works_needed
from namesapart.lifetexts import path_text
from namesapart.lifevalues import work_further
from namesapart.makings import first_outermost
from namesapart.shapes import part_by


class Bench:
    """A journey that is changed by calls, each of which can be taken back.

    A state is a pair of a journey and of its work. The states ahead of the calls that can be taken back are kept,
    and those behind the calls that can be done again, the one that is needed first at the end.
    """

    def __init__(self, journey):
        self._state = (journey, works_needed(journey)[-1])
        self._done = ()
        self._undone = ()

    @property
    def journey(self):
        """The journey as it is now."""
        return self._state[0]

    @property
    def tree(self):
        """The tree of its work."""
        return self._state[1][0]

    @property
    def next(self):
        """The path of its next use, or None."""
        return first_outermost(self._state[1][0])

    def do(self, path):
        """Makes the outermost use at a path, and returns the number of its making."""
        (tree, order), work = self._state
        behind = work_further(work, path)
        self._done = self._done + (self._state,)
        self._undone = ()
        self._state = ((tree, order + (path,)), behind)
        return len(order) + 1

    def __iadd__(self, other):
        """Makes all of an order, as one call."""
        need_steps_on(other)
        (tree, order), work = self._state
        behind = work_behind_all(work, other)
        self._done = self._done + (self._state,)
        self._undone = ()
        self._state = ((tree, order + other), behind)
        return self

    def undo(self):
        """Takes back the last call that is not taken back yet."""
        if self._done == ():
            raise NothingToUndo("no call is left to take back")
        self._undone = self._undone + (self._state,)
        self._state = self._done[-1]
        self._done = self._done[:-1]

    def redo(self):
        """Does the call again that was taken back last."""
        if self._undone == ():
            raise NothingToRedo("no call is left to do again")
        self._done = self._done + (self._state,)
        self._state = self._undone[-1]
        self._undone = self._undone[:-1]

    def attempt(self, action):
        """Calls a function with the bench; if it ends with an error, all is as it was before."""
        state = self._state
        done = self._done
        undone = self._undone
        ended = None
        try:
            told = action(self)
            ended = True
        finally:
            if ended is None:
                self._state = state
                self._done = done
                self._undone = undone
        return told

    def lines(self):
        """Yields, for each making, its path, and the word of the name of the use there."""
        tree, order = self._state[0]
        works = works_along((tree, ()), order)
        for work, path in zip(works, order):
            yield path_text(path) + " " + part_by(work[0], path)[1][0]

    def __len__(self):
        """How many calls can be taken back."""
        return len(self._done)

    def __bool__(self):
        """Whether the journey is not at its end."""
        return not is_at_end(self._state[1])

    def __eq__(self, other):
        """Whether another value is a bench with the same journey."""
        return isinstance(other, Bench) and self._state[0] == other._state[0]
