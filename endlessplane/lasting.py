"""What is left of the prints of a die that goes with one word, done so many times: the last one on each cell."""

from endlessplane.basics import cell_along, is_paper, is_whole, require_from, require_pair
from endlessplane.dice import require_die
from endlessplane.nthstands import last_stand
from endlessplane.prints import print_at, printed_at_once, printed_by_letter, require_face, require_place
from endlessplane.stands import many_in, region_of_cell
from endlessplane.stretches import Stretch
from endlessplane.walks import Walk, letters_of, offsets_of, require_word


def rounds(word, times):
    """The list of the least rounds of the letters from which on all their moments are last."""
    offsets = offsets_of(word)
    require_from(times, 0)
    return [_least_round(offsets, step, times) for step in range(1, len(offsets))]


def is_start_last(word, times):
    """Whether moment 0 is last."""
    offsets = offsets_of(word)
    require_from(times, 0)
    back = [_rounds_between(offset, (0, 0), offsets[-1]) for offset in offsets[1:]]
    return not any([many is not None and 0 <= many < times for many in back])


def last_count(word, times):
    """How many last moments there are."""
    return sum([times - first for first in rounds(word, times)]) + int(is_start_last(word, times))


def last_moment(cell, word, times, goal):
    """The last moment at which the walk is on the goal, or None."""
    return last_stand(_walk_of(cell, word, times), region_of_cell(goal), None, None)


def left_on(cell, word, times, goal, die):
    """The face that the goal keeps, or None."""
    moment = last_moment(cell, word, times, goal)
    require_die(die)
    return None if moment is None else print_at(_walk_of(cell, word, times), die, moment)


def left_count(cell, word, times, die, face, region=None, carpet=None, colour=None):
    """How many cells at a place keep a face."""
    walk = _walk_of(cell, word, times)
    require_die(die)
    require_face(face)
    require_place(region, carpet, colour)
    return _many_left(walk, die, (region, carpet, colour))[face]


def left_counts(cell, word, times, die, region=None, carpet=None, colour=None):
    """The dict from the faces, ascending, to how many cells at a place keep each."""
    walk = _walk_of(cell, word, times)
    require_die(die)
    require_place(region, carpet, colour)
    return _many_left(walk, die, (region, carpet, colour))


def left_paper(cell, word, times, goal, die):
    """The right paper of the goal."""
    face = left_on(cell, word, times, goal, die)
    if face is None:
        return ("never",)
    moment = last_moment(cell, word, times, goal)
    if moment == 0:
        return ("kept", 0, 0, face)
    return ("kept", (moment - 1) // len(word), (moment - 1) % len(word) + 1, face)


def accepts_left(cell, word, times, goal, die, value):
    """Whether any value is the right paper of the goal."""
    paper = left_paper(cell, word, times, goal, die)
    if is_paper(value, "kept", 4):
        # Each moment behind 0 is told by one round and one step, so no other paper is right.
        return all([is_whole(item) for item in value[1:]]) and value == paper
    return is_paper(value, "never", 1) and value == paper


def _walk_of(cell, word, times):
    """The walk that does a word so many times."""
    require_pair(cell, "cell")
    require_word(word)
    require_from(times, 0)
    return Walk(cell, [(word, times)])


def _least_round(offsets, step, times):
    """The least round from which on all moments of a letter are last; the number of rounds, if none is."""
    if offsets[step] in offsets[step + 1:]:
        return times
    shift = offsets[-1]
    if shift == (0, 0):
        return max(0, times - 1)
    # Another letter comes to the cell so many rounds later.
    later = [_rounds_between(offset, offsets[step], shift) for offset in offsets[1:]]
    later = [many for many in later if many is not None and many > 0]
    return max(0, times - min([int(many) for many in later])) if later else 0


def _rounds_between(offset, other, shift):
    """The number g for which an offset and g shifts lead to the other one, or None; 0 if the word leads nowhere."""
    gap = cell_along(other, offset, -1)
    many = 0 if shift == (0, 0) else (gap[0] // shift[0] if shift[0] != 0 else gap[1] // shift[1])
    return many if cell_along((0, 0), shift, many) == gap else None


def _many_left(walk, die, place):
    """The dict from the faces to how many cells at a place, a tuple (region, carpet, colour), keep each."""
    word, times = walk.parts[0]
    many = {face: 0 for face in range(1, 7)}
    if is_start_last(word, times):
        for face in printed_at_once(walk.cell, die, place):
            many[face] = many[face] + 1
    firsts = rounds(word, times)
    for letter in letters_of(walk):
        first = firsts[letter.step - 1]
        if first < times:
            for face, row in printed_by_letter(letter, word, die, Stretch(first, times), place):
                many[face] = many[face] + many_in([row])
    return many
