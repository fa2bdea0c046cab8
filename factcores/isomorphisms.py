"""Facts that differ only in the names of their unknown values: isomorphisms and renaming."""

from factcores.facts import FIRST_UNKNOWN, unknowns_of, without
from factcores.mappings import facts_under


def arrangements(values):
    """All orders of the different values; if the values ascend, in the order of the document's mappings."""
    if len(values) == 0:
        return [[]]
    found = []
    for value in values:
        for rest in arrangements(without(values, value)):
            found.append([value] + rest)
    return found


def first_isomorphism(facts, goals):
    """The first isomorphism from the facts to the goals, which are both in order, or None if there is none."""
    unknowns = unknowns_of(facts)
    targets = unknowns_of(goals)
    # An isomorphism uses up the unknown values of both sides, so there are as many on each.
    if len(unknowns) != len(targets):
        return None
    for assigned in arrangements(targets):
        mapping = dict(zip(unknowns, assigned))
        if facts_under(mapping, facts) == goals:
            return mapping
    return None


def renamed(facts):
    """The facts with their unknown values, in ascending order, renamed to the smallest ones that there are."""
    mapping = {}
    for place, value in enumerate(unknowns_of(facts)):
        mapping[value] = FIRST_UNKNOWN + place
    return facts_under(mapping, facts)
