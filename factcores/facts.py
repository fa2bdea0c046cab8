"""Facts and the values in them.

A fact is a tuple of its table, its first value and its second value, so that
tuples compare as the document orders facts.
"""

FIRST_UNKNOWN = 100


def is_unknown(value):
    return value >= FIRST_UNKNOWN


def values_of(facts):
    """The different values that occur in the facts, in ascending order."""
    found = []
    for fact in facts:
        found.append(fact[1])
        found.append(fact[2])
    return sorted(set(found))


def unknowns_of(facts):
    """The different unknown values that occur in the facts, in ascending order."""
    return [value for value in values_of(facts) if is_unknown(value)]


def without(members, one):
    """The members but this one, in the order they had."""
    return [other for other in members if other != one]
