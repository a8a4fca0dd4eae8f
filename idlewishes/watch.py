"""A watch over a machine and a wish, which goes on step by step."""

from idlewishes.errors import BadRow, TooGreat
from idlewishes.forms import is_whole
from idlewishes.machines import need_machine
from idlewishes.monitors import Teller, word_of
from idlewishes.wishes import need_wish

MOST_STEPS = 200


class Kept:
    """How a watch stood when a block of a trial began; outer is the same for the block around it, or None."""

    def __init__(self, done, undone, outer):
        self.done = done
        self.undone = undone
        self.outer = outer


class Trial:
    """The manager of a trial of a watch."""

    def __init__(self, held):
        self.held = held
        self.kept = None

    def __enter__(self):
        # The blocks of one manager can stand in one another, so it is kept what was kept before.
        self.kept = Kept(self.held.done, self.held.undone, self.kept)
        return self.held

    def __exit__(self, kind, value, trace):
        self.held.done = self.kept.done
        self.held.undone = self.kept.undone
        self.kept = self.kept.outer


class Watch:
    """A watch over a machine and a wish.

    done are the states behind each begin of its row, () included. undone are
    those that were taken back, the one to be done again first at the end.
    Both are tuples: what a trial or a copy has of them stays as it is.
    """

    def __init__(self, machine, wish):
        self._machine = need_machine(machine)
        self._wish = need_wish(wish)
        self._teller = Teller(machine, wish)
        self.done = (self._teller.first,)
        self.undone = ()

    @property
    def model(self):
        """The machine."""
        return self._machine

    @property
    def asked(self):
        """The wish."""
        return self._wish

    @property
    def row(self):
        """The tuple of the standings so far."""
        return tuple([standing for standing, _ in self.done[1:]])

    def tells(self):
        """The word of the row."""
        return word_of(self.done[-1])

    def choices(self):
        """The ascending tuple of the standings to which it can go."""
        standing, _ = self.done[-1]
        return self._teller.ways[standing]

    def step(self, standing):
        """Goes on to a standing; the word of the row then."""
        if not is_whole(standing) or standing not in self.choices():
            raise BadRow(len(self.row))
        if len(self.row) >= MOST_STEPS:
            raise TooGreat(MOST_STEPS)
        self.done = self.done + (self._teller.further(self.done[-1], standing),)
        self.undone = ()
        return self.tells()

    def undo(self):
        """Takes the last step back; whether there was one."""
        if self.row == ():
            return False
        self.undone = self.undone + self.done[-1:]
        self.done = self.done[:-1]
        return True

    def redo(self):
        """Does the step again that was taken back last; whether there was one."""
        if self.undone == ():
            return False
        self.done = self.done + self.undone[-1:]
        self.undone = self.undone[:-1]
        return True

    def copy(self):
        """Another watch that stands as this one."""
        other = Watch(self._machine, self._wish)
        other.done = self.done
        other.undone = self.undone
        return other

    def trial(self):
        """A manager: when a block of it ends, the watch is as it was when the block began."""
        return Trial(self)

    def __len__(self):
        return len(self.row)

    def __eq__(self, other):
        return (
            isinstance(other, Watch)
            and self._machine == other._machine
            and self._wish == other._wish
            and self.row == other.row
        )


def under(manager, deed):
    """What deed returns, called in a with statement over a manager with what this gives."""
    with manager as one:
        return deed(one)
