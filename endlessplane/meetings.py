"""When two walks meet, and when they pass, as runs (first, step, many) of moments."""

from endlessplane.basics import cell_along, require_colour, require_from, require_whole
from endlessplane.floors import require_ground, shown_parts
from endlessplane.lines import on_cell
from endlessplane.nthstands import last_moment, nth_moment
from endlessplane.regions import require_region
from endlessplane.stands import by_firsts, common_row, many_in, many_on
from endlessplane.stretches import Stretch
from endlessplane.walks import STEPS, letters_by_part, require_walk


def meet_runs(one, other, *, lead=0):
    """The list of runs of the moments at which both meet, by their firsts."""
    _require_led(one, other, lead)
    return _runs_of(_meetings(one, other, lead))


def pass_runs(one, other):
    """The list of runs of the moments at which both pass, by their firsts."""
    require_walks(one, other)
    return _runs_of(_passes(one, other))


def many_meetings(one, other, *, lead=0):
    """How often both meet."""
    return many_in(meet_runs(one, other, lead=lead))


def many_passes(one, other):
    """How often both pass."""
    return many_in(pass_runs(one, other))


def nth_meeting(one, other, n, *, lead=0):
    """The moment number n, from 0, at which both meet, or None."""
    require_walks(one, other)
    require_from(n, 0)
    return nth_moment(meet_runs(one, other, lead=lead), n)


def nth_pass(one, other, n):
    """The moment number n, from 0, at which both pass, or None."""
    require_walks(one, other)
    require_from(n, 0)
    return nth_moment(pass_runs(one, other), n)


def last_meeting(one, other, *, lead=0):
    """The last moment at which both meet, or None."""
    return last_moment(meet_runs(one, other, lead=lead))


def meetings_in(one, other, region, *, lead=0):
    """How many meetings are on cells of a region."""
    require_walks(one, other)
    require_region(region)
    require_whole(lead)
    return _many_on(_meetings(one, other, lead), [(region, None)], None)


def meetings_on(one, other, region, ground, colour, *, lead=0):
    """How many meetings are on cells of a region that have this colour on a Carpet or Floor."""
    require_walks(one, other)
    require_region(region)
    require_ground(ground)
    require_colour(colour)
    require_whole(lead)
    return _many_on(_meetings(one, other, lead), shown_parts(ground, region), colour)


def require_walks(one, other):
    """Raise BadPart for the first one that is no Walk."""
    require_walk(one)
    require_walk(other)


def letters_at_once(one, other, lead):
    """The list of triples of a letter of one walk, one of the other, and the row of moments at which both are done."""
    found = []
    others_by_part = letters_by_part(other)
    for letters in letters_by_part(one):
        for others in others_by_part:
            if _are_near(letters, others, lead):
                found.extend(_rows_at_once(letters, others, lead))
    return found


def numbers_met(way, other_way, many):
    """The Stretch of the numbers i from 0 on below many for which cell + i step is the same of two ways, or None."""
    (cell, step), (other_cell, other_step) = way, other_way
    met = on_cell(cell_along(cell, other_cell, -1), cell_along(step, other_step, -1), (0, 0))
    return None if met is None else met.common(Stretch(0, many))


def _require_led(one, other, lead):
    """Raise an error unless these are two Walks and an integer."""
    require_walks(one, other)
    require_whole(lead)


def _are_near(letters, others, lead):
    """Whether some moment lies from the first one to the last one of a part, and of the led other part."""
    return _begin_of(letters) <= _end_of(others) - lead and _begin_of(others) - lead <= _end_of(letters)


def _begin_of(letters):
    """The moment at which the first letter of a part is done first."""
    return letters[0].begin


def _end_of(letters):
    """The moment at which the last letter of a part is done last."""
    return letters[-1].begin + letters[-1].length * (letters[-1].times - 1)


def _rows_at_once(letters, others, lead):
    """Likewise of the letters of one part of each."""
    found = []
    for letter in letters:
        for other in others:
            row = common_row(_row_of(letter, 0), _row_of(other, lead))
            if row is not None:
                found.append((letter, other, row))
    return found


def _row_of(letter, lead):
    """The row of the moments at which a letter of a walk that is led is done."""
    return (letter.begin - lead, letter.length, letter.times)


def _meetings(one, other, lead):
    """The list of triples (run, way, numbers) of the meetings: at the numbers the way is on their cells."""
    found = []
    for letter, other_letter, row in letters_at_once(one, other, lead):
        way = letter.along(row)
        led = (row[0] + lead, row[1], row[2])
        found.extend(_met_on(row, way, other_letter.along(led)))
    # The first moment that both may have stands for itself: one of them has done no letter there, so it is at a cell.
    first = max(0, -lead)
    if one.at(first) == other.at(first + lead):
        found.append(((first, 1, 1), (one.at(first), (0, 0)), Stretch(0, 1)))
    return found


def _passes(one, other):
    """Likewise of the passes."""
    found = []
    for letter, other_letter, row in letters_at_once(one, other, 0):
        step, other_step = STEPS[letter.letter], STEPS[other_letter.letter]
        # They pass where one comes to where the other one goes off, by the opposite step.
        if cell_along(step, other_step, 1) == (0, 0):
            cell, shift = other_letter.along(row)
            found.extend(_met_on(row, letter.along(row), (cell_along(cell, step, 1), shift)))
    return found


def _met_on(row, way, other_way):
    """The list of the triple (run, way, numbers) of where two ways, gone at a row of moments, are on the same cell."""
    first, gap, many = row
    numbers = numbers_met(way, other_way, many)
    if numbers is None:
        return []
    many = numbers.count()
    return [((first + gap * numbers.low, gap if many > 1 else 1, many), way, numbers)]


def _runs_of(found):
    """The list of the runs of such triples, by their firsts."""
    return by_firsts([run for run, _, _ in found])


def _many_on(found, places, colour):
    """How many of them are on the colour at places, a list of pairs (region, carpet)."""
    return sum([many_on(way, numbers, places, colour) for _, way, numbers in found])
