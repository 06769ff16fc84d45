"""Carpets, regions, floors, walks and dice, written as texts, and read again."""

from endlessplane.basics import is_box
from endlessplane.carpets import FIGURES, Carpet, require_carpet
from endlessplane.cuts import boxes_of
from endlessplane.dice import is_die, require_die
from endlessplane.errors import BadIndex, BadPart, BadText
from endlessplane.floors import Floor, require_floor
from endlessplane.regions import MadeSlabs, Region, slabs_of_boxes
from endlessplane.walks import STEPS, Walk, require_walk

MOST_FIGURES = 60

NO_END = "*"


def write_carpet(carpet):
    """The line of a carpet."""
    require_carpet(carpet)
    a, b, d, rows = carpet.normal()
    return " ".join(["carpet", str(a), str(b), str(d)] + list(rows))


def write_region(region):
    """The line of a region."""
    return " ".join(["region"] + [_end_word(end) for box in boxes_of(region) for end in box])


def write_floor(floor):
    """The text of a floor: the line of its carpet, and for each layer those of its region and its carpet."""
    require_floor(floor)
    lines = [write_carpet(floor.carpet_of(0))]
    for region, carpet in floor.told_layers():
        lines.extend([write_region(region), write_carpet(carpet)])
    return "\n".join(lines)


def write_walk(walk):
    """The line of a walk."""
    require_walk(walk)
    words = ["walk", str(walk.cell[0]), str(walk.cell[1])]
    for word, times in walk.parts:
        words.extend([word, str(times)])
    return " ".join(words)


def write_die(die):
    """The line of a die."""
    require_die(die)
    return " ".join(["die"] + [str(face) for face in die])


def read_carpet(text):
    """The carpet of a line, as the line tells it."""
    return made_carpet(_only_line(text, "carpet", has_carpet_form))


def read_region(text):
    """The region of a line, of any number of boxes."""
    return made_region(_only_line(text, "region", has_boxes_form))


def read_floor(text):
    """The floor of a text."""
    lines = _lines_of(text)
    for index, line in enumerate(lines):
        if not _is_floor_line(line, index):
            raise BadText(index)
    if len(lines) % 2 == 0:
        raise BadText(len(lines))
    rows = [line.split(" ")[1:] for line in lines]
    made = [made_region(words) if index % 2 == 1 else made_carpet(words) for index, words in enumerate(rows)]
    return Floor(made[0], list(zip(made[1::2], made[2::2])))


def read_walk(text):
    """The walk of a line."""
    words = _only_line(text, "walk", _has_walk_form)
    return Walk((int(words[0]), int(words[1])), [(word, int(times)) for word, times in zip(words[2::2], words[3::2])])


def read_die(text):
    """The die of a line."""
    return made_die(_only_line(text, "die", has_die_form))


def is_integer_word(word):
    """Whether a word tells an integer: 0, or figures that do not begin with 0, at most sixty, perhaps with - ahead."""
    figures = word[1:] if word[:1] == "-" else word
    if not is_figures(figures) or len(figures) > MOST_FIGURES:
        return False
    return figures[0] != "0" or word == "0"


def is_figures(word):
    """Whether a word has figures alone, one or more."""
    return word != "" and all([sign in FIGURES for sign in word])


def is_steps(word):
    """Whether a word has steps alone, one or more."""
    return word != "" and all([letter in STEPS for letter in word])


def has_carpet_form(words):
    """Whether words can stand behind the first one of the line of a carpet."""
    return len(words) >= 3 and _are_integers(words[:3]) and all([is_figures(word) for word in words[3:]])


def has_boxes_form(words):
    """Whether words can stand behind the first one of the line of a region."""
    return len(words) % 4 == 0 and all([word == NO_END or is_integer_word(word) for word in words])


def has_die_form(words):
    """Whether words can stand behind the first one of the line of a die."""
    return len(words) == 3 and _are_integers(words)


def made_carpet(words):
    """The carpet of words that have its form."""
    return Carpet(int(words[0]), int(words[1]), int(words[2]), words[3:])


def made_region(words):
    """The region of words that have the form of boxes."""
    ends = [None if word == NO_END else int(word) for word in words]
    boxes = list(zip(ends[::4], ends[1::4], ends[2::4], ends[3::4]))
    for index, box in enumerate(boxes):
        if not is_box(box):
            raise BadIndex(index)
    return Region(MadeSlabs(slabs_of_boxes(boxes)))


def made_die(words):
    """The die of words that have its form."""
    die = (int(words[0]), int(words[1]), int(words[2]))
    if not is_die(die):
        raise BadPart("die")
    return die


def _end_word(end):
    """The word of one end of a box."""
    return NO_END if end is None else str(end)


def _are_integers(words):
    """Whether all words are integer words."""
    return all([is_integer_word(word) for word in words])


def _has_walk_form(words):
    """Whether words can stand behind the first one of the line of a walk."""
    if len(words) < 2 or len(words) % 2 != 0 or not _are_integers(words[:2] + words[3::2]):
        return False
    return all([is_steps(word) for word in words[2::2]])


def _lines_of(text):
    """The list of the lines of any value that is a string."""
    if not isinstance(text, str):
        raise BadText(0)
    return text.split("\n")


def _is_line(line, word, has_form):
    """Whether a line begins with this word, and a function tells that the words behind it have their form."""
    words = line.split(" ")
    return words[0] == word and has_form(words[1:])


def _is_floor_line(line, index):
    """Whether a line can be the one with this index of the text of a floor."""
    # Below the line of the ground those of regions and of carpets stand by turns.
    if index % 2 == 1:
        return _is_line(line, "region", has_boxes_form)
    return _is_line(line, "carpet", has_carpet_form)


def _only_line(text, word, has_form):
    """The words behind the first one of a text that is one such line."""
    lines = _lines_of(text)
    if not _is_line(lines[0], word, has_form):
        raise BadText(0)
    if len(lines) > 1:
        raise BadText(1)
    return lines[0].split(" ")[1:]
