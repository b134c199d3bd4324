"""Elders of the moments of a yard, and attempts, which leave nothing behind when they fail."""


def elders(yard, number):
    """The ascending list of the numbers of the elders of a moment, itself among them."""
    yard.past.moment_at(number)
    return yard.past.elders_of(number)


def come_of(yard, number):
    """The ascending list of the numbers of all moments of which one is an elder, itself among them."""
    yard.past.moment_at(number)
    found = {number: True}
    # Each moment comes behind those that it came of.
    for later in range(number + 1, len(yard)):
        if any([elder in found for elder in yard.past.came_of(later)]):
            found[later] = True
    return list(found)


def last_common(yard, one, other):
    """The number of the last common elder of two moments."""
    yard.past.moment_at(one)
    yard.past.moment_at(other)
    return yard.past.last_common_of(one, other)


def line_to(yard, number):
    """The list of the deeds that lead from moment 0 to a moment by the elders that the log tells."""
    yard.past.moment_at(number)
    deeds = []
    while number > 0:
        number, deed = yard.past.entries[number - 1]
        deeds.append(deed)
    return deeds[::-1]


def attempt(yard, action):
    """What action returns, which is called with the yard; if an error leaves it, the yard is as it was before."""
    kept = yard.past
    try:
        told = action(yard)
        kept = yard.past
    finally:
        yard.past = kept
    return told


def tried(yard, deeds):
    """Do all deeds or none; the list of the numbers of the new moments."""
    return attempt(yard, lambda held: [held.do(deed) for deed in deeds])
