"""Carpets recoloured, laid by a table, and one over another."""

from endlessplane.basics import is_colour, is_from, is_row, require_pair
from endlessplane.carpets import FIGURES, MOST_PLACES, Carpet, require_carpet, woven
from endlessplane.errors import BadIndex, BadPart, TooMany
from endlessplane.periods import common_lattice

MOST_CARPETS = 6


def recoloured(carpet, colours):
    """The carpet that has at each cell what the colour map leads its colour to."""
    require_carpet(carpet)
    led_to = _ten_colours(colours)
    a, b, d, rows = carpet.normal()
    texts = ["".join([FIGURES[led_to[int(sign)]] for sign in row]) for row in rows]
    return Carpet(a, b, d, texts).in_normal()


def laid(one, other, table):
    """The carpet that has at each cell what the table has for the colours of both."""
    require_carpet(one)
    require_carpet(other)
    if not is_row(table) or len(table) != len(FIGURES) or not all([_are_ten_colours(row) for row in table]):
        raise BadPart("table")
    return _woven_of([one, other], lambda cell: table[one.colour(cell)][other.colour(cell)])


def together(carpets):
    """The Lattice of one to six carpets together: what the least lattices of all hold."""
    _require_carpets(carpets)
    lattice = carpets[0].least()
    for carpet in carpets[1:]:
        lattice = common_lattice(lattice, carpet.least())
    return lattice


def pairs_met(one, other):
    """The dict from each pair of colours in which both meet to at how many places of their lattice they do."""
    require_carpet(one)
    require_carpet(other)
    # As one number, a pair can be sorted.
    many = {}
    for cell in _places_of([one, other]):
        number = 10 * one.colour(cell) + other.colour(cell)
        many[number] = many.get(number, 0) + 1
    return {(number // 10, number % 10): many[number] for number in sorted([int(told) for told in many])}


def recolouring(one, other):
    """The dict from each colour of the first carpet to the only one of the second that it meets, or None."""
    met = {}
    for colour, goal in pairs_met(one, other):
        if colour in met:
            return None
        met[colour] = goal
    return met


def laid_over(carpets, clear):
    """The carpet of the carpets one over another."""
    _require_row(carpets, clear)
    return _woven_of(carpets, lambda cell: carpets[_shown_index(carpets, clear, cell)].colour(cell))


def shown_at(carpets, clear, cell):
    """The index of the carpet that is shown at a cell."""
    _require_row(carpets, clear)
    require_pair(cell, "cell")
    return _shown_index(carpets, clear, cell)


def showings(carpets, clear):
    """The list of the showings: at how many places of the lattice together each carpet is shown."""
    _require_row(carpets, clear)
    many = [0 for _ in carpets]
    for cell in _places_of(carpets):
        index = _shown_index(carpets, clear, cell)
        many[index] = many[index] + 1
    return many


def hidden(carpets, clear):
    """The ascending list of the indexes of the carpets that are shown nowhere."""
    return [index for index, many in enumerate(showings(carpets, clear)) if many == 0]


def shown_carpet(carpets, clear, index):
    """The carpet of the colour 1 where the carpet with this index is shown, and of 0 elsewhere."""
    _require_row(carpets, clear)
    if not is_from(index, 0) or index >= len(carpets):
        raise BadIndex(index)
    return _woven_of(carpets, lambda cell: int(_shown_index(carpets, clear, cell) == index))


def _are_ten_colours(value):
    """Whether any value is a list of ten colours."""
    return is_row(value) and len(value) == len(FIGURES) and all([is_colour(item) for item in value])


def _ten_colours(colours):
    """The list of what a colour map leads the ten colours to; BadPart for any value that is none."""
    if _are_ten_colours(colours):
        return list(colours)
    if not isinstance(colours, dict):
        raise BadPart("colours")
    if not all([is_colour(colour) and is_colour(goal) for colour, goal in colours.items()]):
        raise BadPart("colours")
    return [colours.get(colour, colour) for colour in range(len(FIGURES))]


def _require_carpets(carpets):
    """Raise BadPart unless this is a list of one to six items, BadIndex for the first one that is no Carpet."""
    if not is_row(carpets) or not 1 <= len(carpets) <= MOST_CARPETS:
        raise BadPart("carpets")
    for index, item in enumerate(carpets):
        if not isinstance(item, Carpet):
            raise BadIndex(index)


def _require_row(carpets, clear):
    """Likewise for a row of carpets, and BadPart unless the clear colours are a list of unlike ones."""
    _require_carpets(carpets)
    if not is_row(clear) or not all([is_colour(item) for item in clear]) or len(set(clear)) != len(clear):
        raise BadPart("clear")


def _places_of(carpets):
    """The list of the places of the lattice together; TooMany if they are too many."""
    lattice = together(carpets)
    if lattice.area() > MOST_PLACES:
        raise TooMany(MOST_PLACES)
    return lattice.places()


def _woven_of(carpets, colour_of):
    """The carpet, in its normal form, with the lattice together and these colours; TooMany if it is too great."""
    return woven(together(carpets), colour_of).in_normal()


def _shown_index(carpets, clear, cell):
    """The index of the last carpet whose colour at the cell is not clear, 0 if all are clear."""
    for index in range(len(carpets) - 1, 0, -1):
        if carpets[index].colour(cell) not in clear:
            return index
    return 0
