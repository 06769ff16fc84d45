"""Floors: a ground, and layers of carpets in regions, one above the other."""

from endlessplane.basics import is_from, is_row, require_pair
from endlessplane.carpets import Carpet, require_carpet
from endlessplane.cuts import boxes_of
from endlessplane.errors import BadIndex, BadNumber, BadPart, TooMany
from endlessplane.laying import recoloured
from endlessplane.parting import parting_in_box
from endlessplane.regions import Region, require_region

MOST_LAYERS = 6


class Floor:
    """A carpet beneath all, the level 0, and up to six layers, pairs (region, carpet), the levels from 1 on."""

    def __init__(self, ground, layers=()):
        require_carpet(ground)
        if not is_row(layers):
            raise BadPart("layers")
        for index, item in enumerate(layers):
            if not _is_layer(item):
                raise BadIndex(index)
        if len(layers) > MOST_LAYERS:
            raise TooMany(MOST_LAYERS)
        self._ground = ground
        self._layers = tuple(layers)
        self._shown = _shown_regions(self._layers)

    def __eq__(self, other):
        return isinstance(other, Floor) and unlike_cell(self, other, ~Region()) is None

    def __len__(self):
        return len(self._layers)

    def colour(self, cell):
        """The colour of a cell."""
        return self.carpet_of(self.shower(cell)).colour(cell)

    def carpet_of(self, level):
        """The carpet of a level."""
        self._require_level(level, 0)
        return self._ground if level == 0 else self._layers[level - 1][1]

    def region_of(self, level):
        """The region of a level, all cells for the ground."""
        self._require_level(level, 0)
        return ~Region() if level == 0 else self._layers[level - 1][0]

    def shown(self, level):
        """The region that a level shows: its own one less those of all layers above it."""
        self._require_level(level, 0)
        return self._shown[level]

    def shower(self, cell):
        """The level that shows a cell."""
        require_pair(cell, "cell")
        for level in range(len(self), 0, -1):
            if cell in self.region_of(level):
                return level
        return 0

    def told_layers(self):
        """The list of the layers."""
        return list(self._layers)

    def laid_on(self, region, carpet):
        """The floor with this layer above all."""
        require_region(region)
        require_carpet(carpet)
        return Floor(self._ground, self._layers + ((region, carpet),))

    def without(self, level):
        """The floor without this layer."""
        self._require_level(level, 1)
        return Floor(self._ground, self._layers[:level - 1] + self._layers[level:])

    def exchanged(self, level):
        """The floor with this layer and the next one above in each other's places."""
        require_two_layers(self, level)
        layers = self.told_layers()
        layers[level - 1:level + 1] = [layers[level], layers[level - 1]]
        return Floor(self._ground, layers)

    def recoloured(self, colours):
        """The floor with all carpets recoloured by a colour map."""
        layers = [(region, recoloured(carpet, colours)) for region, carpet in self._layers]
        return Floor(recoloured(self._ground, colours), layers)

    def _require_level(self, level, least):
        """Raise BadNumber unless the value is a level of the floor, and not below a least one."""
        if not is_from(level, least) or level > len(self):
            raise BadNumber(level)


def buried(floor):
    """The ascending list of the levels of the layers that show nothing."""
    require_floor(floor)
    return [level for level in range(1, len(floor) + 1) if floor.shown(level) == Region()]


def idle(floor):
    """The ascending list of the levels of the layers without which the floor is of the same colouring."""
    require_floor(floor)
    return [level for level in range(1, len(floor) + 1) if floor.without(level) == floor]


def slimmed(floor):
    """The floor without the least idle layer, again and again, until no layer is idle."""
    levels = idle(floor)
    while levels:
        floor = floor.without(levels[0])
        levels = idle(floor)
    return floor


def can_change(floor, level):
    """Whether a layer and the next one above can change places without any cell changing its colour."""
    require_floor(floor)
    require_two_layers(floor, level)
    # Only where both are, and no layer is above them, it matters which one is the upper one.
    both = floor.region_of(level) & floor.shown(level + 1)
    return _parting_in(floor.carpet_of(level), floor.carpet_of(level + 1), both) is None


def require_floor(value):
    """Raise BadPart unless the value is a Floor."""
    if not isinstance(value, Floor):
        raise BadPart("floor")


def require_two_layers(floor, level):
    """Raise BadNumber unless the value is the level of a layer that has a next one above."""
    if not is_from(level, 1) or level >= len(floor):
        raise BadNumber(level)


def require_ground(value):
    """Raise BadPart unless the value is a Carpet or a Floor."""
    if not isinstance(value, (Carpet, Floor)):
        raise BadPart("ground")


def shown_parts(ground, region):
    """The list of pairs (region, carpet): what of a region each carpet of a Carpet or a Floor shows, if any."""
    if isinstance(ground, Carpet):
        return [(region, ground)]
    parts = [(ground.shown(level) & region, ground.carpet_of(level)) for level in range(len(ground) + 1)]
    return [(part, carpet) for part, carpet in parts if part != Region()]


def shown_pairs(one, other, region):
    """The list of triples (region, carpet, carpet): what of a region carpets of two floors show together, if any."""
    found = []
    for part, carpet in shown_parts(one, region):
        for both, other_carpet in shown_parts(other, part):
            found.append((both, carpet, other_carpet))
    return found


def unlike_cell(one, other, region):
    """A cell of a region that has unlike colours on two floors, or None."""
    for both, carpet, other_carpet in shown_pairs(one, other, region):
        cell = _parting_in(carpet, other_carpet, both)
        if cell is not None:
            return cell
    return None


def _is_layer(value):
    """Whether any value is a pair of a Region and a Carpet."""
    if not isinstance(value, tuple) or len(value) != 2:
        return False
    return isinstance(value[0], Region) and isinstance(value[1], Carpet)


def _shown_regions(layers):
    """The tuple of what the levels show, that of the ground first."""
    above = Region()
    found = []
    for region, _ in reversed(layers):
        found.append(region - above)
        above = above | region
    found.append(~above)
    return tuple(found[::-1])


def _parting_in(one, other, region):
    """A cell of a region that has unlike colours in two carpets, or None."""
    for box in boxes_of(region):
        cell = parting_in_box(one, other, box)
        if cell is not None:
            return cell
    return None
