"""The yard: a system is built in it bit by bit, and claims are watched."""

from neargrades.deeds import merged_moments, moment_behind, told_deed
from neargrades.errors import BadName, Clash, NothingDone, TooMany, UnknownName
from neargrades.kinds import check_kind
from neargrades.pasts import first_past
from neargrades.words import check_words, is_word

MOST_MOMENTS = 200
MOST_BRANCHES = 6


class Yard:
    """Moments of a system that is built, in branches."""

    def __init__(self, scale, kind, states):
        check_kind(kind, scale)
        check_words(states)
        self.scale = scale
        self.kind = kind
        self.past = first_past()
        self._states = tuple(states)

    def __len__(self):
        return len(self.past.moments)

    def __eq__(self, other):
        return (isinstance(other, Yard) and self.scale == other.scale and self.kind == other.kind
                and self._states == other._states and self.past.outline() == other.past.outline())

    def states(self):
        """The list of the states."""
        return list(self._states)

    def do(self, deed):
        """Make a new moment of the present one by a deed, any value; return its number."""
        told = told_deed(self.scale, self.kind, self._states, self.past.present_moment(), deed)
        return self._make(moment_behind(self.past.present_moment(), told), told)

    def _make(self, moment, deed):
        if len(self) >= MOST_MOMENTS:
            raise TooMany()
        self.past = self.past.with_moment(moment, deed)
        return self.present()

    def present(self):
        """The number of the present moment."""
        return self.past.present_number()

    def moment(self, number):
        """The (steps, claims) of a moment: a dict from the told states to their steps, a list of (x, y, grade)."""
        moment = self.past.moment_at(number)
        steps = {x: moment.steps[x] for x in self._states if x in moment.steps}
        claims = [(x, y, moment.claims[(x, y)]) for x in self._states for y in self._states
                  if (x, y) in moment.claims]
        return steps, claims

    def now(self):
        """The (steps, claims) of the present moment."""
        return self.moment(self.present())

    def log(self):
        """The list of the (elder, deed) of all moments from 1 on."""
        return list(self.past.entries)

    def undo(self):
        """Go one place back in the trail; return the number that is then present."""
        return self._move(-1)

    def redo(self):
        """Go one place on in the trail; return the number that is then present."""
        return self._move(1)

    def _move(self, count):
        limb = self.past.limb(self.past.standing)
        place = limb.place + count
        if not 0 <= place < len(limb.numbers):
            raise NothingDone()
        self.past = self.past.moved_to(place)
        return self.present()

    def branch(self, name):
        """Make a branch of the present moment."""
        if not is_word(name) or self.past.limb(name) is not None:
            raise BadName(name)
        if len(self.past.limbs) >= MOST_BRANCHES:
            raise TooMany()
        self.past = self.past.with_limb(name)

    def go(self, name):
        """Stand in another branch from now on; return the number that is present there."""
        self._limb(name)
        self.past = self.past.gone_to(name)
        return self.present()

    def _limb(self, name):
        limb = self.past.limb(name)
        if limb is None:
            raise UnknownName(name)
        return limb

    def here(self):
        """The name of the branch where the yard stands."""
        return self.past.standing

    def branches(self):
        """The list of the names of the branches, in the order in which they were made."""
        return [limb.name for limb in self.past.limbs]

    def trail(self, name):
        """The list of the numbers of a branch's trail."""
        return list(self._limb(name).numbers)

    def mark(self, name):
        """The place in a branch's trail."""
        return self._limb(name).place

    def merge(self, name):
        """Merge a branch into the present one; return the number that is then present."""
        other = self._limb(name).present_number()
        if other in self.past.elders_of(self.present()):
            return self.present()
        elder = self.past.moments[self.past.last_common_of(self.present(), other)]
        moment, spots = merged_moments(
            self._states, elder, self.past.present_moment(), self.past.moments[other])
        if spots:
            raise Clash(spots)
        return self._make(moment, ("merge", other))

    def twin(self):
        """Another, equal yard, which goes its own way from now on."""
        other = Yard(self.scale, self.kind, self._states)
        other.past = self.past
        return other
