"""What a scale tells of each two grades, as dicts of dicts: quicker to ask, but of right grades alone."""


class GradeTables:
    """The joins, products, meets and onlys of a scale."""

    def __init__(self, scale):
        grades = scale.grades()
        self.none = scale.none
        self.nearest = scale.nearest
        self.joins = {a: {b: scale.join(a, b) for b in grades} for a in grades}
        self.products = {a: {b: scale.then(a, b) for b in grades} for a in grades}
        self.meets = {a: {b: scale.meet(a, b) for b in grades} for a in grades}
        self.onlys = {a: {b: scale.only(a, b) for b in grades} for a in grades}

    def is_within(self, a, b):
        """Whether a is within b."""
        return self.joins[a][b] == b

    def join_all(self, grades):
        """The join of some grades."""
        joins = self.joins
        told = self.none
        for grade in grades:
            told = joins[told][grade]
        return told

    def meet_all(self, grades):
        """The meet of some grades."""
        meets = self.meets
        told = self.nearest
        for grade in grades:
            told = meets[told][grade]
        return told
