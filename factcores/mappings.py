"""Mappings of facts: how they change facts, and the first one from some facts into others.

A mapping is a dict from unknown values to the values assigned to them.
"""

from factcores.facts import is_unknown, unknowns_of, values_of


def facts_under(mapping, facts):
    """What the facts become under the mapping: each fact once, in order."""
    images = [(fact[0], mapping.get(fact[1], fact[1]), mapping.get(fact[2], fact[2])) for fact in facts]
    return sorted(set(images))


def may_become_value(value, goal, mapping):
    if is_unknown(value) and value not in mapping:
        return True
    return mapping.get(value, value) == goal


def may_become(fact, goal, mapping):
    """Whether nothing in the mapping, whole or begun, keeps the fact from becoming the goal."""
    if fact[0] != goal[0]:
        return False
    return may_become_value(fact[1], goal[1], mapping) and may_become_value(fact[2], goal[2], mapping)


def may_become_one_of(fact, goals, mapping):
    for goal in goals:
        if may_become(fact, goal, mapping):
            return True
    return False


def fits(mapping, facts, goals):
    """Whether each fact may still become one of the goals; of a whole mapping, whether each does."""
    for fact in facts:
        if not may_become_one_of(fact, goals, mapping):
            return False
    return True


def first_completion(mapping, unassigned, facts, goals):
    """The first mapping of the facts into the goals that adds the unassigned values to the mapping, or None."""
    # Asked even with nothing assigned yet: facts without unknown values must be among the goals as they are.
    if not fits(mapping, facts, goals):
        return None
    if len(unassigned) == 0:
        return mapping
    # The smallest unassigned value takes the smallest value that it can, so the first one found is the first of all.
    for value in values_of(goals):
        longer = dict(mapping)
        longer[unassigned[0]] = value
        found = first_completion(longer, unassigned[1:], facts, goals)
        if found is not None:
            return found
    return None


def first_mapping(facts, goals):
    """The first mapping of the facts into the goals, or None if there is none."""
    return first_completion({}, unknowns_of(facts), facts, goals)


def maps_into(facts, goals):
    return first_mapping(facts, goals) is not None


def are_equivalent(facts, others):
    return maps_into(facts, others) and maps_into(others, facts)
