"""Likeness at an idempotent grade: this grade is within the nearness both ways."""

from neargrades.errors import NotIdempotent
from neargrades.residues import within


def check_idempotent(scale, e):
    """Raise UnknownGrade, then NotIdempotent, unless any value is a grade that is its own square."""
    # The product raises UnknownGrade.
    if scale.then(e, e) != e:
        raise NotIdempotent(e)


def are_near(scale, e, near, further):
    """Whether a grade is within the nearness of two things one way and the other way."""
    return within(scale, e, near) and within(scale, e, further)


def parted(names, are_like):
    """The classes of some names, in their order, by a likeness of two names that goes through."""
    told = []
    for name in names:
        # One name tells for all of its class.
        home = [k for k in range(len(told)) if are_like(told[k][0], name)]
        if home:
            told[home[0]].append(name)
        else:
            told.append([name])
    return told


def classes_by(system, table, e):
    """The classes of the states of a system at an idempotent grade, by the table of its nearness."""
    return parted(system.states(), lambda x, y: are_near(system.scale, e, table[(x, y)], table[(y, x)]))
