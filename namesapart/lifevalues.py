"""Journeys as values."""

from namesapart.errors import CannotMake, InvalidPath
from namesapart.lifejourneys import are_integers, back_by, is_at_end, work_behind, works_needed
from namesapart.lifestops import led_within, need_makings
from namesapart.lifetexts import read_journey, text_of_journey
from namesapart.makings import first_outermost
from namesapart.shapes import part_by
from namesapart.trees import need_path


def work_further(work, path):
    """The work behind the making at a path, or an error if there is none."""
    if not are_integers(path):
        raise InvalidPath("not a tuple of integers")
    behind = work_behind(work, path)
    if behind is None:
        raise CannotMake("no outermost use that would be made stands at the path")
    return behind


class Way:
    """A journey as a value."""

    def __init__(self, journey):
        self._work = works_needed(journey)[-1]
        self._journey = journey

    @classmethod
    def read(cls, value):
        """The journey that has this text."""
        return cls(read_journey(value))

    @property
    def journey(self):
        """The journey itself."""
        return self._journey

    @property
    def tree(self):
        """The tree of its work."""
        return self._work[0]

    @property
    def makings(self):
        """The makings of its work: the paths of the makers."""
        return self._work[1]

    @property
    def next(self):
        """The path of its next use, or None."""
        return first_outermost(self._work[0])

    def __add__(self, other):
        """The journey with one more making, at a path."""
        work_further(self._work, other)
        tree, order = self._journey
        return Way((tree, order + (other,)))

    def __iadd__(self, other):
        """Makes the use at a path in this very journey."""
        self._work = work_further(self._work, other)
        tree, order = self._journey
        self._journey = (tree, order + (other,))
        return self

    def __lshift__(self, other):
        """The journey without its last makings, so many."""
        return Way(back_by(self._journey, other))

    def __rshift__(self, other):
        """The journey led on to its end, or so many makings further."""
        need_makings(other)
        return Way(led_within(self._journey, self._work, (), other))

    def __getitem__(self, at):
        """The part of the tree of its work at a path."""
        need_path(self._work[0], at)
        return part_by(self._work[0], at)

    def __contains__(self, x):
        """Whether a value is the path of an outermost use that would be made."""
        return work_behind(self._work, x) is not None

    def __iter__(self):
        raise TypeError("a journey is not iterated over")

    def __len__(self):
        """How many makings there are."""
        return len(self._journey[1])

    def __bool__(self):
        """Whether it is not at its end."""
        return not is_at_end(self._work)

    def __str__(self):
        """The text of the journey."""
        return str(text_of_journey(self._journey))

    def __eq__(self, other):
        """Whether another value is the same journey as a value."""
        return isinstance(other, Way) and self._journey == other._journey
