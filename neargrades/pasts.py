"""What a yard holds at one time: its moments, its log and its branches."""

from neargrades.errors import NoState
from neargrades.words import is_number


class Moment:
    """The steps of the states that are told, and the grades of the pairs of which something is claimed."""

    def __init__(self, steps, claims):
        """Hold two dicts, which nobody changes any more."""
        self.steps = steps
        self.claims = claims


class Limb:
    """A branch: its name, the numbers of its trail, and the place in it."""

    def __init__(self, name, numbers, place):
        self.name = name
        self.numbers = numbers
        self.place = place

    def present_number(self):
        """The number of the moment at the place."""
        return self.numbers[self.place]


class Past:
    """All that a yard holds at one time.

    None of it is changed: a deed makes another past. So to keep all is to keep this one, and to put it back is to
    put all back.
    """

    def __init__(self, moments, entries, limbs, standing):
        """Hold tuples of moments, of what the log tells and of branches, and the name of that where the yard stands."""
        self.moments = moments
        self.entries = entries
        self.limbs = limbs
        self.standing = standing

    def limb(self, name):
        """The branch of a name, None if no branch has it."""
        found = [limb for limb in self.limbs if limb.name == name]
        return found[0] if found else None

    def present_number(self):
        """The number of the present moment."""
        return self.limb(self.standing).present_number()

    def present_moment(self):
        """The present moment."""
        return self.moments[self.present_number()]

    def moment_at(self, number):
        """The moment of a number, any value; NoState if it is none of a moment."""
        if not is_number(number) or not 0 <= number < len(self.moments):
            raise NoState(number)
        return self.moments[number]

    def outline(self):
        """What two pasts have in common just if they are equal: the log tells what stands in the moments."""
        return self.entries, [(limb.name, limb.numbers, limb.place) for limb in self.limbs], self.standing

    def with_moment(self, moment, deed):
        """The past in which a moment has come of the present one."""
        limb = self.limb(self.standing)
        numbers = (*limb.numbers[:limb.place + 1], len(self.moments))
        entries = (*self.entries, (self.present_number(), deed))
        limbs = self._limbs_with(Limb(limb.name, numbers, limb.place + 1))
        return Past((*self.moments, moment), entries, limbs, self.standing)

    def moved_to(self, place):
        """The past in which the present branch has another place."""
        limb = self.limb(self.standing)
        limbs = self._limbs_with(Limb(limb.name, limb.numbers, place))
        return Past(self.moments, self.entries, limbs, self.standing)

    def _limbs_with(self, other):
        """The branches with another one in the place of that of its name."""
        return tuple([other if limb.name == other.name else limb for limb in self.limbs])

    def with_limb(self, name):
        """The past with one branch more, which has the present moment alone."""
        limbs = (*self.limbs, Limb(name, (self.present_number(),), 0))
        return Past(self.moments, self.entries, limbs, self.standing)

    def gone_to(self, name):
        """The past in which the yard stands in another branch."""
        return Past(self.moments, self.entries, self.limbs, name)

    def came_of(self, number):
        """The list of the numbers of the moments that one came of."""
        if number == 0:
            return []
        elder, deed = self.entries[number - 1]
        return [elder, deed[1]] if deed[0] == "merge" else [elder]

    def elders_of(self, number):
        """The ascending list of the numbers of the elders of a moment."""
        found = {}
        waiting = [number]
        while waiting:
            elder = waiting.pop()
            if elder not in found:
                found[elder] = True
                waiting.extend(self.came_of(elder))
        return sorted(list(found))

    def last_common_of(self, one, other):
        """The greatest number of an elder of two moments."""
        others = {number: True for number in self.elders_of(other)}
        return max([number for number in self.elders_of(one) if number in others])


def first_past():
    """The past of a yard in which nothing is told yet."""
    return Past((Moment({}, {}),), (), (Limb("main", (0,), 0),), "main")
