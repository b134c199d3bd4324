"""All errors of the package.

Their attributes share no list or dict with what was handed in: a caller may
change that behind the call. Therefore the messages have fixed wordings, too.
"""


def _kept(value):
    """The value, with a new list or dict in the place of each one in it."""
    if isinstance(value, list):
        return [_kept(part) for part in value]
    if isinstance(value, tuple):
        return _kept_row(value)
    if isinstance(value, dict):
        return {key: _kept(part) for key, part in value.items()}
    return value


def _kept_row(values):
    """The same of a list or tuple, as a tuple."""
    return tuple([_kept(value) for value in values])


class NeargradesError(ValueError):
    """What was handed in, or asked for, is wrong."""


class BadScale(NeargradesError):
    """No scale is told so."""


class BadImages(NeargradesError):
    """The images are no list with one for each grade."""


class BadTable(NeargradesError):
    """The table, rows or order have no form."""


class BadPaper(NeargradesError):
    """The paper has no form, or is not let by."""


class BadBlocks(NeargradesError):
    """The blocks are none of the system."""


class BadTurn(NeargradesError):
    """The turn is none for the kind."""


class BadDeed(NeargradesError):
    """The deed has no form."""


class MixedScales(NeargradesError):
    """The scales are not the same."""


class MixedKinds(NeargradesError):
    """The kinds are not the same."""


class TooMany(NeargradesError):
    """There would be more than are allowed."""


class NothingDone(NeargradesError):
    """There is nothing to undo or to redo."""


class NotKept(NeargradesError):
    """A part of the source scale is not kept by the images."""

    def __init__(self, part, members):
        super().__init__("the images do not keep the scale")
        self.part = part
        self.members = _kept_row(members)


class NotThrough(NeargradesError):
    """Three names are not as near as the first two steps make them."""

    def __init__(self, members):
        super().__init__("two names are less near than by way of a third one")
        self.members = _kept_row(members)


class NotLike(NeargradesError):
    """A state is not like the first state of its block."""

    def __init__(self, members):
        super().__init__("two states of a block are not like")
        self.members = _kept_row(members)


class NotSame(NeargradesError):
    """A name is not nearest to itself."""

    def __init__(self, name):
        super().__init__("a name is not nearest to itself")
        self.name = _kept(name)


class NotIdempotent(NeargradesError):
    """A grade times itself is another grade."""

    def __init__(self, name):
        super().__init__("the grade is not idempotent")
        self.name = _kept(name)


class NoStep(NeargradesError):
    """A state has no step."""

    def __init__(self, name):
        super().__init__("a state has no step")
        self.name = _kept(name)


class OpenState(NeargradesError):
    """A state would be left open."""

    def __init__(self, name):
        super().__init__("a state is open")
        self.name = _kept(name)


class BadName(NeargradesError):
    """What should be a word is none."""

    def __init__(self, name):
        super().__init__("this is no word")
        self.name = _kept(name)


class TwiceTold(NeargradesError):
    """A name stands twice."""

    def __init__(self, name):
        super().__init__("a name stands twice")
        self.name = _kept(name)


class BadKind(NeargradesError):
    """What should be a stone of a kind is none."""

    def __init__(self, path):
        super().__init__("there is no right stone of a kind")
        self.path = _kept_row(path)


class BadValue(NeargradesError):
    """Data have no form of their place."""

    def __init__(self, path):
        super().__init__("data have no form of their place")
        self.path = _kept_row(path)


class BadSaying(NeargradesError):
    """A saying has no form of its place."""

    def __init__(self, path):
        super().__init__("a saying has no form of its place")
        self.path = _kept_row(path)


class BadText(NeargradesError):
    """A sign of a text cannot stand."""

    def __init__(self, place):
        super().__init__("a sign of the text cannot stand")
        self.place = _kept(place)


class Clash(NeargradesError):
    """Two moments clash."""

    def __init__(self, spots):
        super().__init__("two moments clash")
        self.spots = _kept_row(spots)


class NameMissing(LookupError):
    """What was asked for is not there."""


class UnknownGrade(NameMissing):
    """The scale has no such grade."""

    def __init__(self, name):
        super().__init__("this is no grade of the scale")
        self.name = _kept(name)


class UnknownName(NameMissing):
    """There is no such name."""

    def __init__(self, name):
        super().__init__("there is no such name")
        self.name = _kept(name)


class UnknownState(NameMissing):
    """There is no such state."""

    def __init__(self, name):
        super().__init__("there is no such state")
        self.name = _kept(name)


class NotTold(NameMissing):
    """Nothing is told of this."""

    def __init__(self, name):
        super().__init__("nothing is told of this")
        self.name = _kept(name)


class NoState(NameMissing):
    """There is no such number."""

    def __init__(self, number):
        super().__init__("there is no such number")
        self.number = _kept(number)
