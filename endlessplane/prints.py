"""Which faces a die prints that goes with a walk, how often, and when."""

from endlessplane.basics import cell_along, require_from
from endlessplane.dice import is_face, order, require_die, rolled
from endlessplane.errors import BadNumber
from endlessplane.lines import in_stretch
from endlessplane.nthstands import last_moment, nth_moment
from endlessplane.regions import Region, require_region
from endlessplane.stands import coloured_rows, many_in, require_painted
from endlessplane.stretches import Stretch
from endlessplane.walks import letters_by_part, require_walk


def die_at(walk, die, moment):
    """The die at a moment, None behind the end."""
    require_walk(walk)
    require_die(die)
    told = walk.part_at(moment)
    if told is None:
        return die if moment == 0 else None
    index, turn, step = told
    word = walk.parts[index][0]
    return rolled(rolled(_die_ahead(walk, die, index), word, turn), word[:step])


def print_at(walk, die, moment):
    """The face printed at a moment, None behind the end."""
    lying = die_at(walk, die, moment)
    return None if lying is None else face_below(lying)


def print_count(walk, die, face, region=None, carpet=None, colour=None):
    """How often a face is printed at a place."""
    return many_in(_rows_of_face(walk, die, face, region, carpet, colour))


def print_counts(walk, die, region=None, carpet=None, colour=None):
    """The dict from the faces, ascending, to how often each is printed at a place."""
    require_walk(walk)
    require_die(die)
    require_place(region, carpet, colour)
    found = _prints(walk, die, region, carpet, colour)
    return {face: many_in([row for other, row in found if other == face]) for face in range(1, 7)}


def nth_print(walk, die, face, n, region=None, carpet=None, colour=None):
    """The moment number n, from 0, at which a face is printed at a place, or None."""
    require_walk(walk)
    require_die(die)
    require_face(face)
    require_from(n, 0)
    return nth_moment(_rows_of_face(walk, die, face, region, carpet, colour), n)


def last_print(walk, die, face, region=None, carpet=None, colour=None):
    """The last moment at which a face is printed at a place, or None."""
    return last_moment(_rows_of_face(walk, die, face, region, carpet, colour))


def face_below(die):
    """The face of a die that is printed."""
    return 7 - die[0]


def require_face(value):
    """Raise BadNumber unless the value is a face."""
    if not is_face(value):
        raise BadNumber(value)


def require_place(region, carpet, colour):
    """Raise an error unless these tell a place."""
    if region is not None:
        require_region(region)
    require_painted(carpet, colour)


def printed_at_once(cell, die, place):
    """The list, of one face or none, of what a die that lies on a cell prints at a place."""
    return [face for face, _ in _printed_rows((cell, (0, 0)), [face_below(die)], Stretch(0, 1), place)]


def printed_by_letter(letter, word, die, numbers, place):
    """The pairs (face, row) of the rounds, of a Stretch of numbers, at which a letter of a word prints at a place.

    The die lies so when the word is begun first; a place is a tuple (region, carpet, colour).
    """
    begun = [rolled(die, word, turn) for turn in range(order(word))]
    faces = [face_below(rolled(one, word[:letter.step])) for one in begun]
    return _printed_rows((letter.cell, letter.shift), faces, numbers, place)


def _printed_rows(way, faces, numbers, place):
    """The pairs (face, row) of the numbers, of a Stretch, at which a way is at a place; the faces come again."""
    cell, step = way
    region, carpet, colour = place
    many = len(faces)
    found = []
    for turn, face in enumerate(faces):
        times = in_stretch(turn, many, numbers)
        if times is not None:
            along = (cell_along(cell, step, turn), cell_along((0, 0), step, many))
            rows = coloured_rows(along, times, ~Region() if region is None else region, carpet)
            found.extend([(face, (turn + many * first, many * gap, often))
                          for hue, (first, gap, often) in rows if hue == colour])
    return found


def _prints(walk, die, region, carpet, colour):
    """The pairs (face, row) of the moments at which a die that goes with a walk prints at a place."""
    place = (region, carpet, colour)
    found = [(face, (0, 1, 1)) for face in printed_at_once(walk.cell, die, place)]
    for letters in letters_by_part(walk):
        index = letters[0].part
        word, times = walk.parts[index]
        begun = _die_ahead(walk, die, index)
        for letter in letters:
            rows = printed_by_letter(letter, word, begun, Stretch(0, times), place)
            found.extend([(face, (letter.begin + first * len(word), gap * len(word), many))
                          for face, (first, gap, many) in rows])
    return found


def _rows_of_face(walk, die, face, region, carpet, colour):
    """The rows of the moments at which a face is printed at a place."""
    require_walk(walk)
    require_die(die)
    require_face(face)
    require_place(region, carpet, colour)
    return [row for other, row in _prints(walk, die, region, carpet, colour) if other == face]


def _die_ahead(walk, die, index):
    """The die when the part with this index begins."""
    for word, times in walk.parts[:index]:
        die = rolled(die, word, times)
    return die
