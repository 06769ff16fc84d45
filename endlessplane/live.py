"""Live floors, on which layers are laid and walkers go, step by step, and can be taken back."""

from endlessplane.basics import require_colour, require_from, require_pair
from endlessplane.dice import require_die
from endlessplane.errors import BadName, NothingToUndo, TooMany
from endlessplane.floors import Floor, shown_parts
from endlessplane.meetings import many_meetings
from endlessplane.nthstands import nth_moment
from endlessplane.prints import die_at
from endlessplane.regions import Region
from endlessplane.stands import floor_stands, rows_of_stands
from endlessplane.walkforms import are_same
from endlessplane.walks import MOST_PARTS, Walk, require_word

MOST_WALKERS = 6
MOST_NAME_LETTERS = 8
NAME_LETTERS = "abcdefghijklmnopqrstuvwxyz"


class Live:
    """A floor and walkers (name, walk, die), and how they were at each step.

    What changes is one attribute alone, a tuple (what is, what was, what was taken back); all in it never changes.
    """

    def __init__(self, carpet):
        self._history = ((Floor(carpet), ()), (), ())

    def __eq__(self, other):
        if not isinstance(other, Live) or self.now() != other.now() or self.names() != other.names():
            return False
        return all([self.die_of(name) == other.die_of(name) and are_same(self.walk_of(name), other.walk_of(name))
                    for name in self.names()])

    def now(self):
        """The floor as it is."""
        return self._history[0][0]

    def names(self):
        """The list of the names, in the order in which they were put."""
        return [name for name, _, _ in self._walkers()]

    def walk_of(self, name):
        """The walk of a walker."""
        return self._walker(name)[1]

    def where(self, name):
        """The cell on which a walker stands."""
        return self.walk_of(name).goal()

    def die_of(self, name):
        """The die of a walker as it lies, None without one."""
        _, walk, die = self._walker(name)
        return None if die is None else die_at(walk, die, walk.end())

    def colour_under(self, name):
        """The colour of the cell on which a walker stands."""
        return self.now().colour(self.where(name))

    def lay(self, region, carpet):
        """Lay a layer on top."""
        self._do(self.now().laid_on(region, carpet), self._walkers())

    def lift(self):
        """Lift the last layer."""
        many = len(self.now())
        if many == 0:
            raise NothingToUndo("layer")
        self._do(self.now().without(many), self._walkers())

    def put(self, name, cell, die=None):
        """Put a walker on a cell."""
        if not _is_name(name) or name in self.names():
            raise BadName(name)
        require_pair(cell, "cell")
        if die is not None:
            require_die(die)
        if len(self.names()) == MOST_WALKERS:
            raise TooMany(MOST_WALKERS)
        self._do(self.now(), self._walkers() + ((name, Walk(cell), die),))

    def take(self, name):
        """Take a walker away."""
        taken = self._walker(name)[0]
        self._do(self.now(), tuple([walker for walker in self._walkers() if walker[0] != taken]))

    def go(self, name, word, times=1):
        """Let a walker go on by a word, so many times."""
        going, walk, die = self._walker(name)
        require_word(word)
        require_from(times, 0)
        gone = (going, _gone_on(walk, word, times), die)
        self._do(self.now(), tuple([gone if walker[0] == going else walker for walker in self._walkers()]))

    def stood(self, name, colour):
        """How often a walker has stood on a colour of the floor as it is."""
        return floor_stands(self.walk_of(name), ~Region(), self.now(), colour)

    def stood_at(self, name, colour, n):
        """The moment number n, from 0, at which it has stood so, or None."""
        walk = self.walk_of(name)
        require_colour(colour)
        require_from(n, 0)
        rows = [rows_of_stands(walk, region, carpet, colour) for region, carpet in shown_parts(self.now(), ~Region())]
        return nth_moment([row for told in rows for row in told], n)

    def met(self, one, other):
        """How often two walkers have met."""
        return many_meetings(self.walk_of(one), self.walk_of(other))

    def undo(self):
        """Take back the last step that stands."""
        now, done, undone = self._history
        if not done:
            raise NothingToUndo("step")
        self._history = (done[-1], done[:-1], undone + (now,))

    def redo(self):
        """Do the step again that was taken back last."""
        now, done, undone = self._history
        if not undone:
            raise NothingToUndo("undone")
        self._history = (undone[-1], done + (now,), undone[:-1])

    def steps(self):
        """How many steps can be taken back."""
        return len(self._history[1])

    def attempt(self, deed):
        """What a function of the live floor returns; behind it all is as ahead of it."""
        kept = self._history
        try:
            return deed(self)
        finally:
            self._history = kept

    def trial(self):
        """An object for one with block; behind it all is as ahead of it."""
        return Trial(self)

    def twin(self):
        """A new live floor with the same steps that goes on by itself."""
        other = Live(self.now().carpet_of(0))
        other._history = self._history
        return other

    def _walkers(self):
        """The tuple of the walkers."""
        return self._history[0][1]

    def _walker(self, name):
        """The walker with this name."""
        # The name is compared with strings only: other values may have an == of any kind.
        if not isinstance(name, str) or name not in self.names():
            raise BadName(name)
        return [walker for walker in self._walkers() if walker[0] == name][0]

    def _do(self, floor, walkers):
        """Make one step: from now on these are the floor and the walkers."""
        now, done, _ = self._history
        self._history = ((floor, walkers), done + (now,), ())


class Trial:
    """What a with block begins and ends with: behind it the live floor is as ahead of it."""

    def __init__(self, live):
        self._live = live
        self._kept = live._history

    def __enter__(self):
        self._kept = self._live._history
        return self._live

    def __exit__(self, kind, value, trace):
        self._live._history = self._kept


def _is_name(value):
    """Whether any value can be the name of a walker."""
    if not isinstance(value, str) or not 1 <= len(value) <= MOST_NAME_LETTERS:
        return False
    return all([letter in NAME_LETTERS for letter in value])


def _gone_on(walk, word, times):
    """The walk with so many times a word behind it."""
    parts = list(walk.parts)
    if parts and parts[-1][0] == word:
        parts.append((word, parts.pop()[1] + times))
    elif len(parts) == MOST_PARTS:
        raise TooMany(MOST_PARTS)
    else:
        parts.append((word, times))
    return Walk(walk.cell, parts)
