"""What the order of a scale's grades, and its product, tell of them."""


def within(scale, a, b):
    """Whether the grade a is within the grade b."""
    return scale.join(a, b) == b


def height(scale):
    """The number of steps in the longest chain of grades."""
    grades = scale.grades()
    below = {b: [a for a in grades if a != b and within(scale, a, b)] for b in grades}
    steps = {}
    # What is below a grade has fewer grades below it, so it is counted ahead of it.
    for top in sorted(grades, key=lambda grade: len(below[grade])):
        steps[top] = max([steps[under] + 1 for under in below[top]], default=0)
    return max(list(steps.values()))


def idempotent(scale):
    """The list of all grades that are their own product with themselves, in order."""
    return [grade for grade in scale.grades() if scale.then(grade, grade) == grade]
