"""Papers that show how often two walks meet, and what tells whether they are right."""

from endlessplane.basics import is_from, is_whole
from endlessplane.meetings import letters_at_once, numbers_met, require_walks
from endlessplane.walks import letters_of


def meet_paper(one, other):
    """A right paper (starts, rows) of two walks."""
    require_walks(one, other)
    rows = []
    for letter, other_letter, row in letters_at_once(one, other, 0):
        place = (letter.part, letter.step, other_letter.part, other_letter.step)
        rows.append(place + row + _word_of(letter, other_letter, row))
    return (one.cell == other.cell, tuple(rows))


def is_meet_paper(one, other, value):
    """Whether any value is a right paper of two walks."""
    require_walks(one, other)
    if not isinstance(value, tuple) or len(value) != 2 or not isinstance(value[0], bool):
        return False
    starts, rows = value
    if not isinstance(rows, tuple) or not all([_is_told_row(row) for row in rows]):
        return False
    if starts != (one.cell == other.cell) or len(set([row[:4] for row in rows])) != len(rows):
        return False
    letters, others = _letters_by_place(one), _letters_by_place(other)
    if not all([_is_right(letters.get(row[:2]), others.get(row[2:4]), row) for row in rows]):
        return False
    # No moment is in two rows, so with as many as there are each one but 0 is in one.
    return sum([row[6] for row in rows]) == min(int(one.end()), other.end())


def shown_by(paper):
    """The number of meetings that a right paper shows."""
    starts, rows = paper
    return int(starts) + sum([row[6] if row[7] == "always" else 1 for row in rows if row[7] != "never"])


def _word_of(letter, other, row):
    """The pair (word, at) of how often, and at which number, both are on the same cell when they do these letters."""
    numbers = numbers_met(letter.along(row), other.along(row), row[2])
    if numbers is None:
        return ("never", 0)
    return ("always", 0) if numbers.count() == row[2] else ("once", numbers.low)


def _letters_by_place(walk):
    """The dict from pairs (part, step) to the letters of a walk."""
    return {(letter.part, letter.step): letter for letter in letters_of(walk)}


def _is_told_row(value):
    """Whether any value is a tuple of the form (a, k, b, l, first, step, many, word, at)."""
    if not isinstance(value, tuple) or len(value) != 9:
        return False
    if not all([is_whole(value[index]) for index in (0, 1, 2, 3, 4, 8)]):
        return False
    return is_from(value[5], 1) and is_from(value[6], 1) and isinstance(value[7], str)


def _is_right(letter, other, row):
    """Whether a row that has its form tells what is so of two letters, or None, at its moments."""
    moments = row[4:7]
    if letter is None or other is None or not _is_done(letter, moments) or not _is_done(other, moments):
        return False
    return row[7:] == _word_of(letter, other, moments)


def _is_done(letter, moments):
    """Whether a letter is done at all moments of a row."""
    first, gap, many = moments
    ahead = first - letter.begin
    if ahead < 0 or ahead + gap * (many - 1) > letter.length * (letter.times - 1):
        return False
    return ahead % letter.length == 0 and (many == 1 or gap % letter.length == 0)
