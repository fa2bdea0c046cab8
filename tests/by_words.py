"""Mappings, cores and isomorphisms by the document's words: everything is tried, in the order that it tells."""

import itertools


def values_of(facts):
    return sorted({value for table, a, b in facts for value in (a, b)})


def unknowns_of(facts):
    return [value for value in values_of(facts) if value >= 100]


def under(mapping, facts):
    return {(table, mapping.get(a, a), mapping.get(b, b)) for table, a, b in facts}


def mappings(facts, goals):
    """All mappings of the facts into the goals, the first one first."""
    unknowns = unknowns_of(facts)
    for assigned in itertools.product(values_of(goals), repeat=len(unknowns)):
        mapping = dict(zip(unknowns, assigned))
        if under(mapping, facts) <= set(goals):
            yield mapping


def first_mapping(facts, goals):
    return next(mappings(facts, goals), None)


def maps_into(facts, goals):
    return first_mapping(facts, goals) is not None


def equivalent(facts, others):
    return maps_into(facts, others) and maps_into(others, facts)


def isomorphisms(facts, goals):
    """All isomorphisms from the facts to the goals, the first one first."""
    for mapping in mappings(facts, goals):
        assigned = list(mapping.values())
        if set(assigned) <= set(unknowns_of(goals)) and len(set(assigned)) == len(assigned):
            if under(mapping, facts) == set(goals):
                yield mapping


def first_isomorphism(facts, goals):
    return next(isomorphisms(facts, goals), None)


def redundant(facts):
    return [fact for fact in sorted(facts) if maps_into(facts, set(facts) - {fact})]


def after_one_step(facts):
    """The facts after one step; the same facts if none of them is redundant."""
    for fact in sorted(facts):
        mapping = first_mapping(facts, set(facts) - {fact})
        if mapping is not None:
            return under(mapping, facts)
    return set(facts)


def steps(facts):
    """The sets of facts on the way to the core, the set itself first and the core last."""
    way = [set(facts)]
    while redundant(way[-1]):
        way.append(after_one_step(way[-1]))
    return way


def core(facts):
    return steps(facts)[-1]


def kept(facts):
    """The core with its unknown values renamed."""
    names = {unknown: 100 + place for place, unknown in enumerate(unknowns_of(core(facts)))}
    return under(names, core(facts))
