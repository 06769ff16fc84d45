"""Motions: turns and shifts of cells, and of all that is told on cells."""

from endlessplane.basics import cell_along, require_pair
from endlessplane.carpets import require_carpet, woven
from endlessplane.closed import require_closed
from endlessplane.cuts import boxes_of
from endlessplane.dice import sides
from endlessplane.errors import BadPart
from endlessplane.floors import Floor, require_floor
from endlessplane.periods import spanned
from endlessplane.regions import MadeSlabs, Region, slabs_of_boxes
from endlessplane.stretches import Stretch
from endlessplane.walks import STEPS, MadeParts, Walk, require_walk

TURNS = ("stay", "left", "back", "right", "mirror", "flip", "swap", "cross")

# For each turn the numbers (a, b, c, d): the cell (x, y) is led to (a x + b y, c x + d y).
MATRICES = {
    "stay": (1, 0, 0, 1),
    "left": (0, -1, 1, 0),
    "back": (-1, 0, 0, -1),
    "right": (0, 1, -1, 0),
    "mirror": (-1, 0, 0, 1),
    "flip": (1, 0, 0, -1),
    "swap": (0, 1, 1, 0),
    "cross": (0, -1, -1, 0),
}

SIDES = {"north": "N", "east": "E", "south": "S", "west": "W"}


class Motion:
    """A turn, one of eight words, and a shift behind it."""

    def __init__(self, turn, shift=(0, 0)):
        if not isinstance(turn, str) or turn not in TURNS:
            raise BadPart("turn")
        require_pair(shift, "shift")
        self.turn = turn
        self.shift = shift

    def __eq__(self, other):
        return isinstance(other, Motion) and self.turn == other.turn and self.shift == other.shift

    def __rshift__(self, other):
        if not isinstance(other, Motion):
            raise TypeError("behind a Motion there is a Motion only")
        east, north = [turned_step(other.turn, turned_step(self.turn, step)) for step in ((1, 0), (0, 1))]
        return Motion(_turn_of(east, north), other.led(self.shift))

    def sign(self):
        """1 if the motion keeps what is left and what is right, -1 if not."""
        a, b, c, d = MATRICES[self.turn]
        return a * d - b * c

    def led(self, cell):
        """The cell to which a cell is led."""
        require_pair(cell, "cell")
        return cell_along(turned_step(self.turn, cell), self.shift, 1)

    def led_back(self, cell):
        """The cell that is led to a cell."""
        return self.reversed_motion().led(cell)

    def reversed_motion(self):
        """The motion that leads back."""
        # The turn that leads back has rows and columns of the numbers in each other's places.
        a, b, c, d = MATRICES[self.turn]
        turn = _turn_of((a, b), (c, d))
        return Motion(turn, cell_along((0, 0), turned_step(turn, self.shift), -1))


def moved_carpet(motion, carpet):
    """The carpet on which the cell to which a cell is led has the colour of this one, in its normal form."""
    _require_motion(motion)
    require_carpet(carpet)
    least = carpet.least()
    lattice = spanned(turned_step(motion.turn, (least.a, 0)), turned_step(motion.turn, (least.b, least.d)))
    back = motion.reversed_motion()
    # All periods are turned, and no others, so this lattice is the least one, too.
    return woven(lattice, lambda cell: carpet.colour(back.led(cell)))


def moved_region(motion, region):
    """The region of the cells to which those of a region are led."""
    _require_motion(motion)
    return Region(MadeSlabs(slabs_of_boxes([_moved_box(motion, box) for box in boxes_of(region)])))


def moved_floor(motion, floor):
    """The floor with the ground moved, and each layer with its region and carpet."""
    _require_motion(motion)
    require_floor(floor)
    layers = [(moved_region(motion, region), moved_carpet(motion, carpet)) for region, carpet in floor.told_layers()]
    return Floor(moved_carpet(motion, floor.carpet_of(0)), layers)


def moved_walk(motion, walk):
    """The walk that is at each moment at the cell to which the walk's one is led."""
    _require_motion(motion)
    require_walk(walk)
    return _moved_parts(motion, walk, motion.led(walk.cell))


def moved_closed(motion, walk):
    """The closed walk that goes round the moved cells as a closed walk goes round the cells."""
    _require_motion(motion)
    require_closed(walk)
    # The corner is the low one of its cell; where the cell is led, another corner of it may be the low one.
    a, b, c, d = MATRICES[motion.turn]
    corner = cell_along(motion.led(walk.cell), (int(a + b < 0), int(c + d < 0)), 1)
    return _moved_parts(motion, walk, corner)


def moved_die(motion, die):
    """The die that has the face of the side of each direction on the side of the turned direction."""
    _require_motion(motion)
    faces = sides(die)
    turned = {_turned_letter(motion.turn, SIDES[side]): faces[side] for side in SIDES}
    return (die[0], turned["N"], turned["E"])


def turned_step(turn, step):
    """The step to which a turn leads a step."""
    a, b, c, d = MATRICES[turn]
    x, y = step
    return (a * x + b * y, c * x + d * y)


def _require_motion(value):
    """Raise BadPart unless the value is a Motion."""
    if not isinstance(value, Motion):
        raise BadPart("motion")


def _turn_of(east, north):
    """The turn that leads (1, 0) and (0, 1) to these."""
    for turn in TURNS:
        if turned_step(turn, (1, 0)) == east and turned_step(turn, (0, 1)) == north:
            return turn


def _turned_letter(turn, letter):
    """The letter of the turned step."""
    step = turned_step(turn, STEPS[letter])
    for other in STEPS:
        if STEPS[other] == step:
            return other


def _moved_parts(motion, walk, cell):
    """The walk from a cell with the same parts, each step turned."""
    letters = {letter: _turned_letter(motion.turn, letter) for letter in STEPS}
    parts = [("".join([letters[letter] for letter in word]), times) for word, times in walk.parts]
    return Walk(cell, MadeParts(tuple(parts)))


def _moved_box(motion, box):
    """The box of the cells to which those of a box are led."""
    a, b, c, d = MATRICES[motion.turn]
    across, up = Stretch(box[0], box[1]), Stretch(box[2], box[3])
    columns = _moved_stretch(across if a != 0 else up, a + b, motion.shift[0])
    rows = _moved_stretch(up if d != 0 else across, c + d, motion.shift[1])
    return (columns.low, columns.high, rows.low, rows.high)


def _moved_stretch(stretch, sign, by):
    """The Stretch of the integers sign i + by, for those i of a Stretch; the sign is 1 or -1."""
    return (stretch if sign > 0 else stretch.turned()).moved(by)
