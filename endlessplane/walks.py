"""Words of steps, and walks, which do some words very often."""

from endlessplane.basics import cell_along, is_from, is_row, require_from, require_pair
from endlessplane.errors import BadIndex, BadNumber, BadPart, TooMany

STEPS = {"E": (1, 0), "N": (0, 1), "W": (-1, 0), "S": (0, -1)}

MOST_LETTERS = 24
MOST_PARTS = 6
MOST_STEPS = 400


class MadeParts:
    """Parts of which it is known that they have their form; a Walk is made from them, however many they are."""

    def __init__(self, ready):
        self.ready = ready


class Walk:
    """A cell, at which the walk begins, and parts (word, times), done one behind the other."""

    def __init__(self, cell, parts=()):
        require_pair(cell, "cell")
        self.cell = cell
        self.parts = parts.ready if isinstance(parts, MadeParts) else _told_parts(parts)
        self._bounds = _bounds_of(cell, self.parts)

    def __eq__(self, other):
        return isinstance(other, Walk) and self.cell == other.cell and self.parts == other.parts

    def end(self):
        """The last moment."""
        return self._bounds[-1][0]

    def goal(self):
        """The cell at the last moment."""
        return self._bounds[-1][1]

    def begins(self):
        """The list of the pairs (moment, cell) at which the parts begin."""
        return list(self._bounds[:-1])

    def at(self, moment):
        """The cell at a moment, None behind the end."""
        told = self.part_at(moment)
        if told is None:
            return self.cell if moment == 0 else None
        index, turn, step = told
        offsets = offsets_of(self.parts[index][0])
        return cell_along(cell_along(self._bounds[index][1], offsets[-1], turn), offsets[step], 1)

    def part_at(self, moment):
        """The tuple (index of the part, round, step) of a moment, None for moment 0 and behind the end."""
        require_from(moment, 0)
        if moment == 0 or moment > self.end():
            return None
        # The first part that ends at the moment or behind it; one with times 0 ends where the one ahead of it does.
        index = 0
        while self._bounds[index + 1][0] < moment:
            index = index + 1
        many = len(self.parts[index][0])
        ahead = moment - 1 - self._bounds[index][0]
        return (index, ahead // many, ahead % many + 1)

    def steps(self, first, last):
        """The string of the steps made between two moments."""
        require_moments(self, first, last)
        if last - first > MOST_STEPS:
            raise TooMany(MOST_STEPS)
        return "".join([self._step_to(moment) for moment in range(first + 1, last + 1)])

    def _step_to(self, moment):
        """The step by which the walk comes to where it is at a moment behind 0."""
        index, _, step = self.part_at(moment)
        return self.parts[index][0][step - 1]


class Letter:
    """One letter of one part of a walk: at which moments it is done, and to which cells it leads.

    part, step: the index of the part, the place of the letter in its word, from 1; letter: the step itself.
    begin, length, times: it is done first at the moment begin, then each length moments, so many times.
    cell, shift: the cell to which it leads first, and by what each later one lies farther.
    """

    def __init__(self, place, told, bound, offsets):
        self.part, self.step = place
        word, times = told
        step = self.step
        self.letter = word[step - 1]
        self.begin = bound[0] + step
        self.length = len(word)
        self.times = times
        self.cell = cell_along(bound[1], offsets[step], 1)
        self.shift = offsets[-1]

    def along(self, row):
        """The pair (cell, step): to which cell it leads at the first of a row of its moments, and how they go on."""
        first, gap, _ = row
        return (cell_along(self.cell, self.shift, (first - self.begin) // self.length),
                cell_along((0, 0), self.shift, gap // self.length))


def offsets_of(word):
    """The tuple of the cells to which the first 0, 1, .. all steps of the word lead from (0, 0)."""
    require_word(word)
    offsets = [(0, 0)]
    for letter in word:
        offsets.append(cell_along(offsets[-1], STEPS[letter], 1))
    return tuple(offsets)


def shift_of(word):
    """The cell to which the steps of the word lead from (0, 0)."""
    return offsets_of(word)[-1]


def root_of(word):
    """The pair of the shortest word that is done to make this one, and of how many times."""
    require_word(word)
    many = 1
    while word[:many] * (len(word) // many) != word:
        many = many + 1
    return (word[:many], len(word) // many)


def letters_by_part(walk):
    """The list of the lists of the letters of each part that is done at all."""
    rows = []
    for index, (told, bound) in enumerate(zip(walk.parts, walk.begins())):
        if told[1] > 0:
            offsets = offsets_of(told[0])
            rows.append([Letter((index, step), told, bound, offsets) for step in range(1, len(offsets))])
    return rows


def letters_of(walk):
    """The list of the letters of all parts, one behind the other."""
    return [letter for letters in letters_by_part(walk) for letter in letters]


def require_walk(value):
    """Raise BadPart unless the value is a Walk."""
    if not isinstance(value, Walk):
        raise BadPart("walk")


def require_word(value):
    """Raise BadPart unless the value is a word."""
    if not _is_word(value):
        raise BadPart("word")


def require_moments(walk, first, last):
    """Raise BadNumber for the first one that is no moment of the walk, and for a last one that is below the first."""
    for moment, least in ((first, 0), (last, first)):
        if not is_from(moment, least) or moment > walk.end():
            raise BadNumber(moment)


def _is_word(value):
    """Whether any value is a string of 1 to 24 steps."""
    if not isinstance(value, str) or not 1 <= len(value) <= MOST_LETTERS:
        return False
    return all([letter in STEPS for letter in value])


def _is_part(value):
    """Whether any value is a tuple (word, times)."""
    return isinstance(value, tuple) and len(value) == 2 and _is_word(value[0]) and is_from(value[1], 0)


def _told_parts(parts):
    """The tuple of any value that is a list of up to six parts."""
    if not is_row(parts) or len(parts) > MOST_PARTS:
        raise BadPart("parts")
    for index, item in enumerate(parts):
        if not _is_part(item):
            raise BadIndex(index)
    return tuple(parts)


def _bounds_of(cell, parts):
    """The tuple of the pairs (moment, cell) at which the parts begin, and at last of that at which the walk ends."""
    bounds = [(0, cell)]
    for word, times in parts:
        moment, begun = bounds[-1]
        bounds.append((moment + times * len(word), cell_along(begun, shift_of(word), times)))
    return tuple(bounds)
