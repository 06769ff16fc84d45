"""Whether two walks are the same, and walks told otherwise: tidied, cut, turned back, joined, told again, moved."""

from endlessplane.basics import is_from
from endlessplane.errors import BadNumber
from endlessplane.parting import unlike_index
from endlessplane.walks import MadeParts, Walk, require_moments, require_walk, root_of

OPPOSITES = {"E": "W", "N": "S", "W": "E", "S": "N"}

MOST_TIMES = 20


def are_same(one, other):
    """Whether two walks have the same end, and are at the same cell at each moment."""
    return parting_moment(one, other) is None


def parting_moment(one, other):
    """The least moment at which one of two walks is nowhere, or at another cell; None if they are the same."""
    require_walk(one)
    require_walk(other)
    if one.cell != other.cell:
        return 0
    end = min(int(one.end()), other.end())
    moment = 0
    while moment < end:
        many, index = _steps_alike(one, other, moment)
        if index is not None:
            return moment + index + 1
        moment = moment + many
    return None if one.end() == other.end() else end + 1


def tidied(walk):
    """A tidy walk that is the same."""
    require_walk(walk)
    tidy = []
    for word, times in walk.parts:
        root, many = root_of(word)
        if times > 0:
            ahead = tidy.pop()[1] if tidy and tidy[-1][0] == root else 0
            tidy.append((root, ahead + many * times))
    return _made(walk.cell, tidy)


def is_tidy(walk):
    """Whether the walk has no part with times 0, each word is its own root, and neighbouring ones are unlike."""
    return tidied(walk).parts == walk.parts


def cut(walk, first, last):
    """The walk from one moment on, up to another one."""
    require_walk(walk)
    require_moments(walk, first, last)
    left = []
    for (word, times), (begin, _) in zip(walk.parts, walk.begins()):
        low = max(0, first - begin)
        high = min(int(last - begin), len(word) * times)
        left.extend(_cut_part(word, low, high))
    return _made(walk.at(first), left)


def turned_back(walk):
    """The walk from its goal back to its cell."""
    require_walk(walk)
    return _made(walk.goal(), [(_opposite(word), times) for word, times in walk.parts[::-1]])


def walk_joined(one, other):
    """The walk that goes on from the goal of the first one as the other one."""
    require_walk(one)
    require_walk(other)
    return _made(one.cell, one.parts + other.parts)


def told_again(walk, times):
    """The walk that does all parts so many times."""
    require_walk(walk)
    if not is_from(times, 0) or times > MOST_TIMES:
        raise BadNumber(times)
    return _made(walk.cell, walk.parts * times)


def moved_to(walk, cell):
    """The walk with the same parts that begins at another cell."""
    require_walk(walk)
    return _made(cell, walk.parts)


def _made(cell, parts):
    """The walk of these parts, however many they are."""
    return Walk(cell, MadeParts(tuple(parts)))


def _steps_alike(one, other, moment):
    """The pair of how many steps are left of both parts behind a moment, and of the index of the first unlike ones."""
    word, left = _going_on(one, moment)
    other_word, other_left = _going_on(other, moment)
    many = min(int(left), other_left)
    # Where they agree for as many steps as both words have, they agree as long as both go on so.
    tried = min(int(many), len(word) + len(other_word))
    text, other_text = (word * tried)[:tried], (other_word * tried)[:tried]
    return (many, None if text == other_text else unlike_index(text, other_text))


def _going_on(walk, moment):
    """The pair of the word done behind a moment, turned to begin there, and of how many steps are left of its part."""
    index, turn, step = walk.part_at(moment + 1)
    word, times = walk.parts[index]
    return (word[step - 1:] + word[:step - 1], len(word) * (times - turn) - step + 1)


def _cut_part(word, low, high):
    """The list of the parts that do the steps from low on below high of a word that is done again and again."""
    if low >= high:
        return []
    begun, ended = low // len(word), high // len(word)
    head, tail = low - begun * len(word), high - ended * len(word)
    if begun == ended:
        return [(word[head:tail], 1)]
    if head > 0:
        return [(word[head:], 1)] + _cut_part(word, (begun + 1) * len(word), high)
    whole = [(word, ended - begun)]
    return whole + [(word[:tail], 1)] if tail > 0 else whole


def _opposite(word):
    """The word that leads back by the same cells."""
    return "".join([OPPOSITES[letter] for letter in word[::-1]])
