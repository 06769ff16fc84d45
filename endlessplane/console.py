"""The console, which leads a live floor by lines of words."""

from endlessplane.errors import BadPart
from endlessplane.live import Live
from endlessplane.texts import (
    has_boxes_form, has_carpet_form, is_integer_word, is_steps, made_carpet, made_region, write_floor,
)

DONE = "ok"
NOTHING = "none"


def _lay(live, words):
    """The answer to lay BOXES on CARPET."""
    at = words.index("on")
    live.lay(made_region(words[:at]), made_carpet(words[at + 1:]))
    return DONE


def _lift(live, words):
    """The answer to lift."""
    live.lift()
    return DONE


def _put(live, words):
    """The answer to put NAME X Y, perhaps with TOP NORTH EAST."""
    numbers = [int(word) for word in words[1:]]
    live.put(words[0], tuple(numbers[:2]), tuple(numbers[2:]) if len(numbers) > 2 else None)
    return DONE


def _take(live, words):
    """The answer to take NAME."""
    live.take(words[0])
    return DONE


def _go(live, words):
    """The answer to go NAME WORD N."""
    live.go(words[0], words[1], int(words[2]))
    return DONE


def _undo(live, words):
    """The answer to undo."""
    live.undo()
    return DONE


def _redo(live, words):
    """The answer to redo."""
    live.redo()
    return DONE


def _where(live, words):
    """The answer to where NAME."""
    return _words_of(live.where(words[0]))


def _die(live, words):
    """The answer to die NAME."""
    return _words_of(live.die_of(words[0]))


def _under(live, words):
    """The answer to under NAME."""
    return str(live.colour_under(words[0]))


def _stood(live, words):
    """The answer to stood NAME COLOUR, perhaps with N."""
    numbers = [int(word) for word in words[1:]]
    if len(numbers) == 1:
        return str(live.stood(words[0], numbers[0]))
    moment = live.stood_at(words[0], numbers[0], numbers[1])
    return NOTHING if moment is None else str(moment)


def _met(live, words):
    """The answer to met NAME NAME."""
    return str(live.met(words[0], words[1]))


def _names(live, words):
    """The answer to names."""
    return _words_of(live.names())


def _steps(live, words):
    """The answer to steps."""
    return str(live.steps())


def _show(live, words):
    """The answer to show."""
    return write_floor(live.now()).replace("\n", " / ")


def _words_of(values):
    """The words of some values with one blank between them; none without any, and for None."""
    return " ".join([str(value) for value in values]) if values else NOTHING


ANSWERS = {
    "lay": _lay, "lift": _lift, "put": _put, "take": _take, "go": _go, "undo": _undo, "redo": _redo, "where": _where,
    "die": _die, "under": _under, "stood": _stood, "met": _met, "names": _names, "steps": _steps, "show": _show,
}

# For each first word the forms of the words behind it: n is a name, i an integer word, s a word of steps.
FORMS = {
    "lift": ("",), "put": ("nii", "niiiii"), "take": ("n",), "go": ("nsi",), "undo": ("",), "redo": ("",),
    "where": ("n",), "die": ("n",), "under": ("n",), "stood": ("ni", "nii"), "met": ("nn",), "names": ("",),
    "steps": ("",), "show": ("",),
}


class Console:
    """At first without a live floor."""

    def __init__(self):
        self._live = None

    def run(self, line):
        """The answer to a line."""
        words = _words_in(line)
        if words[0] == "begin" and has_carpet_form(words[1:]):
            self._live = Live(made_carpet(words[1:]))
            return DONE
        if self._live is None or not _has_form(words[0], words[1:]):
            raise BadPart("line")
        answer = ANSWERS[words[0]]
        return answer(self._live, words[1:])


def _words_in(value):
    """The list of the words of any value that is one line."""
    words = value.split(" ") if isinstance(value, str) and "\n" not in value else [""]
    if "" in words:
        raise BadPart("line")
    return words


def _has_form(first, words):
    """Whether words have the form of those behind a first one."""
    if first == "lay":
        return "on" in words and _has_lay_form(words, words.index("on"))
    return any([_fit(words, form) for form in FORMS.get(first, ())])


def _has_lay_form(words, at):
    """Whether words have the form BOXES on CARPET, on being at this index."""
    return has_boxes_form(words[:at]) and has_carpet_form(words[at + 1:])


def _fit(words, form):
    """Whether words are of the kinds of a form."""
    return len(words) == len(form) and all([_fits(word, kind) for word, kind in zip(words, form)])


def _fits(word, kind):
    """Whether a word is of a kind."""
    if kind == "i":
        return is_integer_word(word)
    return kind == "n" or is_steps(word)
