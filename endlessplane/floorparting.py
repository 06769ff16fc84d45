"""Whether two floors are of one colouring, which cells part them, and how many."""

from endlessplane.basics import is_pair
from endlessplane.carpets import FIGURES
from endlessplane.counts import count_of
from endlessplane.floors import require_floor, shown_pairs, unlike_cell
from endlessplane.laying import laid
from endlessplane.regions import Region, require_region


def are_alike(one, other):
    """Whether two floors are of one colouring."""
    return floor_parting(one, other) is None


def floor_parting(one, other):
    """A cell of unlike colours on two floors, or None."""
    return floor_parting_in(one, other, ~Region())


def does_part(one, other, cell):
    """Whether any value is a cell of unlike colours on two floors."""
    _require_floors(one, other)
    return is_pair(cell) and one.colour(cell) != other.colour(cell)


def agree_in(one, other, region):
    """Whether two floors have the same colours in a region."""
    return floor_parting_in(one, other, region) is None


def floor_parting_in(one, other, region):
    """A cell of a region that has unlike colours on two floors, or None."""
    _require_asked(one, other, region)
    return unlike_cell(one, other, region)


def unlike_count(one, other, region):
    """How many cells of a region have unlike colours on two floors, None if there is no end of them."""
    _require_asked(one, other, region)
    unlike = [[int(colour != goal) for goal in range(len(FIGURES))] for colour in range(len(FIGURES))]
    # All are laid first, as carpets that cannot be laid are refused whatever the number is.
    parts = [(both, laid(carpet, other_carpet, unlike))
             for both, carpet, other_carpet in shown_pairs(one, other, region)]
    counts = [count_of(carpet, both, 1) for both, carpet in parts]
    return None if None in counts else sum(counts)


def _require_floors(one, other):
    """Raise BadPart for the first one that is no Floor."""
    require_floor(one)
    require_floor(other)


def _require_asked(one, other, region):
    """Raise BadPart unless these are two Floors and a Region."""
    _require_floors(one, other)
    require_region(region)
