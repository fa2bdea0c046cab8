"""Mappings and cores straight by the document's words: every mapping is tried, in the order that it tells."""

import itertools


def values_of(facts):
    return sorted({value for table, a, b in facts for value in (a, b)})


def under(mapping, facts):
    return {(table, mapping.get(a, a), mapping.get(b, b)) for table, a, b in facts}


def first_mapping(facts, goals):
    unknowns = [value for value in values_of(facts) if value >= 100]
    for assigned in itertools.product(values_of(goals), repeat=len(unknowns)):
        mapping = dict(zip(unknowns, assigned))
        if under(mapping, facts) <= set(goals):
            return mapping
    return None


def maps_into(facts, goals):
    return first_mapping(facts, goals) is not None


def redundant(facts):
    return [fact for fact in sorted(facts) if maps_into(facts, set(facts) - {fact})]


def after_one_step(facts):
    """The facts after one step; the same facts if none of them is redundant."""
    for fact in sorted(facts):
        mapping = first_mapping(facts, set(facts) - {fact})
        if mapping is not None:
            return under(mapping, facts)
    return set(facts)


def steps(facts):
    """The sets of facts on the way to the core, the set itself first and the core last."""
    way = [set(facts)]
    while redundant(way[-1]):
        way.append(after_one_step(way[-1]))
    return way
