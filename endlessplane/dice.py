"""Dice that roll over their edges, and which dice they can come to be like."""

from endlessplane.basics import is_whole, require_from, require_pair
from endlessplane.errors import BadPart
from endlessplane.walks import STEPS

MOST_LETTERS = 60

# The two hands.
HANDS = ((1, 2, 3), (1, 3, 2))


def is_die(value):
    """Whether any value is a die (top, north, east)."""
    if not isinstance(value, tuple) or len(value) != 3 or not all([is_face(item) for item in value]):
        return False
    # No two are of one of the three pairs of opposite faces.
    return len(set([min(int(face), 7 - face) for face in value])) == 3


def is_text(value):
    """Whether any value is a text of up to sixty steps."""
    return isinstance(value, str) and len(value) <= MOST_LETTERS and all([letter in STEPS for letter in value])


def sides(die):
    """The dict of the words for the six sides to their faces."""
    require_die(die)
    top, north, east = die
    return {"top": top, "bottom": 7 - top, "north": north, "south": 7 - north, "east": east, "west": 7 - east}


def rolled(die, text, times=1):
    """The die behind a text that is done so many times."""
    require_die(die)
    many = order(text)
    require_from(times, 0)
    return _rolled_along(die, text * (times % many))


def order(text):
    """How many times, 1 or more, a text must be done at least until each die is as it was."""
    _require_text(text)
    # The steps move the sides of all dice alike, so one die tells the number for all.
    first = HANDS[0]
    die = _rolled_along(first, text)
    many = 1
    while die != first:
        die = _rolled_along(die, text)
        many = many + 1
    return many


def hand(die):
    """The die of the two hands that is of the hand of a die."""
    require_die(die)
    return HANDS[0] if die in _ways_from(HANDS[0]) else HANDS[1]


def way(die, other):
    """The first, by the alphabet, of the shortest texts by which a die becomes another one, None of unlike hands."""
    require_die(die)
    require_die(other)
    return _ways_from(die).get(other)


def are_even(die, other):
    """Whether the way from a die to another one has an even number of steps."""
    text = way(die, other)
    return text is not None and len(text) % 2 == 0


def can_come(die, start, goal, other):
    """Whether a die that is rolled from one cell to another one can be like the other die there."""
    there = all_there(die, start, goal)
    require_die(other)
    return other in there


def all_there(die, start, goal):
    """The ascending list of the dice that a die can be like if it is rolled from one cell to another one."""
    require_die(die)
    require_pair(start, "cell")
    require_pair(goal, "cell")
    odd = (goal[0] - start[0] + goal[1] - start[1]) % 2
    ways = _ways_from(die)
    faces = range(1, 7)
    return [(top, north, east) for top in faces for north in faces for east in faces
            if (top, north, east) in ways and len(ways[top, north, east]) % 2 == odd]


def is_face(value):
    """Whether any value is a face."""
    return is_whole(value) and 1 <= value <= 6


def require_die(value):
    """Raise BadPart unless the value is a die."""
    if not is_die(value):
        raise BadPart("die")


def _require_text(value):
    """Raise BadPart unless the value is a text of steps."""
    if not is_text(value):
        raise BadPart("word")


def _rolled_once(die, letter):
    """The die behind one step."""
    top, north, east = die
    if letter == "E":
        return (7 - east, north, top)
    if letter == "W":
        return (east, north, 7 - top)
    if letter == "N":
        return (7 - north, top, east)
    return (north, 7 - top, east)


def _rolled_along(die, text):
    """The die behind the steps of a text."""
    for letter in text:
        die = _rolled_once(die, letter)
    return die


def _ways_from(die):
    """The dict from all dice of the hand of a die to the ways to them."""
    ways = {die: ""}
    dice = [die]
    # Each row has the dice one step farther, those of lesser texts first; so the first text found is the way.
    while dice:
        farther = []
        for one in dice:
            for letter in "ENSW":
                other = _rolled_once(one, letter)
                if other not in ways:
                    ways[other] = ways[one] + letter
                    farther.append(other)
        dice = farther
    return ways
