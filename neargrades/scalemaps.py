"""Maps of scales: they keep none, nearest, each join and each product."""

from neargrades.errors import BadImages, MixedScales, NotKept, UnknownGrade
from neargrades.words import is_row


class ScaleMap:
    """A map that leads each grade of the source to one of the target."""

    def __init__(self, source, target, images):
        if not is_row(images) or len(images) != len(source):
            raise BadImages()
        for image in images:
            if image not in target:
                raise UnknownGrade(image)
        grades = source.grades()
        leads = {grades[place]: images[place] for place in range(len(grades))}
        fault = _first_not_kept(source, target, leads)
        if fault is not None:
            raise NotKept(fault[0], fault[1])
        self.source = source
        self.target = target
        self._images = tuple(images)
        self._leads = leads

    @classmethod
    def same(cls, scale):
        """The map that leads each grade of a scale to itself."""
        return cls(scale, scale, scale.grades())

    def __call__(self, grade):
        if grade not in self.source:
            raise UnknownGrade(grade)
        return self._leads[grade]

    def images(self):
        """The list of the images of the source's grades, in order."""
        return list(self._images)

    def __rshift__(self, other):
        if not isinstance(other, ScaleMap):
            return NotImplemented
        if self.target != other.source:
            raise MixedScales()
        return ScaleMap(self.source, other.target, [other._leads[image] for image in self._images])

    def __eq__(self, other):
        return (isinstance(other, ScaleMap) and self.source == other.source and self.target == other.target
                and self._images == other._images)


def _first_not_kept(source, target, leads):
    """The first (part, members) that a dict of images does not keep, None if it keeps all."""
    if leads[source.none] != target.none:
        return ("none", ())
    if leads[source.nearest] != target.nearest:
        return ("nearest", ())
    for a in source.grades():
        for b in source.grades():
            if leads[source.join(a, b)] != target.join(leads[a], leads[b]):
                return ("join", (a, b))
    for a in source.grades():
        for b in source.grades():
            if leads[source.then(a, b)] != target.then(leads[a], leads[b]):
                return ("product", (a, b))
    return None


def _choices(source, target):
    """All dicts of images for the grades of the source, by the places of the images."""
    rows = [{}]
    for grade in source.grades():
        rows = [{**row, grade: image} for row in rows for image in target.grades()]
    return rows


def all_maps(source, target):
    """The list of all maps from one scale to another, in the order of their images."""
    return [
        ScaleMap(source, target, list(leads.values()))
        for leads in _choices(source, target)
        if _first_not_kept(source, target, leads) is None
    ]


def keeps_only(m):
    """None if m keeps each a => b, else the first (a, b) for which it does not."""
    for a in m.source.grades():
        for b in m.source.grades():
            if m(m.source.only(a, b)) != m.target.only(m(a), m(b)):
                return (a, b)
    return None
