"""At which moment a walk stands somewhere for the n-th time, and papers of this."""

from endlessplane.basics import is_pair, least_that, require_from
from endlessplane.stands import many_ahead, many_in, region_of_cell, rows_of_stands, stands
from endlessplane.walks import MadeParts, Walk, require_walk, shift_of


def nth_stand(walk, region, carpet, colour, n):
    """The moment with n moments ahead of it at which the walk stands so, or None."""
    rows = rows_of_stands(walk, region, carpet, colour)
    require_from(n, 0)
    return nth_moment(rows, n)


def first_stand(walk, region, carpet, colour):
    """The first such moment, or None."""
    return nth_stand(walk, region, carpet, colour, 0)


def last_stand(walk, region, carpet, colour):
    """The last such moment, or None."""
    return last_moment(rows_of_stands(walk, region, carpet, colour))


def longest_absence(walk, cell):
    """The most moments that lie between two neighbouring visits of a cell, None with less than two visits."""
    require_walk(walk)
    region = region_of_cell(cell)
    rows = rows_of_stands(_shortened(walk, region), region)
    moments = sorted([int(first + index * gap) for first, gap, many in rows for index in range(many)])
    if len(moments) < 2:
        return None
    return max([int(later - moment - 1) for moment, later in zip(moments, moments[1:])])


def stand_paper(walk, region, carpet, colour, n):
    """The paper (moment, ahead) of the n-th such moment, or None."""
    moment = nth_stand(walk, region, carpet, colour, n)
    return None if moment is None else (moment, n)


def lets_stand(walk, region, carpet, colour, value):
    """Whether any value is a paper of some n-th such moment."""
    rows = rows_of_stands(walk, region, carpet, colour)
    if not is_pair(value):
        return False
    moment, ahead = value
    # The walk stands there just if there is one more ahead of the next moment.
    return many_ahead(rows, moment) == ahead and many_ahead(rows, moment + 1) == ahead + 1


def nth_moment(rows, n):
    """The moment number n, from 0, of rows without common moments, None if they have no more than n."""
    if n >= many_in(rows):
        return None
    low = min([int(first) for first, _, _ in rows])
    return least_that(low, last_moment(rows), lambda moment: many_ahead(rows, moment + 1) > n)


def last_moment(rows):
    """The last moment of rows, None without any."""
    return max([int(first + gap * (many - 1)) for first, gap, many in rows]) if rows else None


def _shortened(walk, region):
    """The walk with fewer rounds, but with the same absences from a region of one cell."""
    short = []
    for (word, times), (_, begun) in zip(walk.parts, walk.begins()):
        # A word that leads back to where it begins comes to the cell each time, or never: twice has all absences.
        if shift_of(word) == (0, 0) and stands(Walk(begun, [(word, 1)]), region) > 0:
            times = min(2, times)
        short.append((word, times))
    return Walk(walk.cell, MadeParts(tuple(short)))
