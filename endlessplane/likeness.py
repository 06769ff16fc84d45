"""Whether motions lead one carpet to another one, and which ones do."""

from endlessplane.carpets import Carpet, require_carpet, row_text
from endlessplane.motions import TURNS, Motion, moved_carpet


def least_form(carpet):
    """The carpet told by the least of the normal forms of all carpets to which motions lead one."""
    best = None
    for turn in TURNS:
        turned = moved_carpet(Motion(turn), carpet)
        for shift in turned.least().places():
            form = _form_shifted(turned, shift)
            if best is None or form < best:
                best = form
    a, b, d, rows = best
    return Carpet(a, b, d, rows)


def are_like(one, other):
    """Whether a motion leads one carpet to one that is alike to the other."""
    return motion_between(one, other) is not None


def motions_between(one, other):
    """The list of the motions that lead one carpet to the other, with told shifts, in the order of the turns."""
    require_carpet(one)
    require_carpet(other)
    found = []
    for turn in TURNS:
        shift = _told_shift(moved_carpet(Motion(turn), one), other)
        if shift is not None:
            found.append(Motion(turn, shift))
    return found


def motion_between(one, other):
    """The first of these motions, or None."""
    found = motions_between(one, other)
    return found[0] if found else None


def own_motions(carpet):
    """The list of the motions between a carpet and itself."""
    return motions_between(carpet, carpet)


def shows_like(one, other, motion):
    """Whether any value is a Motion that leads one carpet to one that is alike to the other."""
    require_carpet(one)
    require_carpet(other)
    return isinstance(motion, Motion) and moved_carpet(motion, one) == other


def _form_shifted(carpet, shift):
    """The normal form of a carpet that is moved by a shift."""
    a, b, d, _ = carpet.normal()
    return (a, b, d, tuple([row_text(carpet, (-shift[0], y - shift[1]), a) for y in range(d)]))


def _told_shift(carpet, other):
    """The shift, one of the places in the least lattice of the other carpet, that moves one to this, or None."""
    for shift in other.least().places():
        if _form_shifted(carpet, shift) == other.normal():
            return shift
    return None
