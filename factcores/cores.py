"""Redundant facts, and the core of a list of facts."""

from factcores.facts import without
from factcores.mappings import facts_under, first_mapping, maps_into


def redundant_facts(facts):
    """Those of the facts that are redundant, in the order they had."""
    return [fact for fact in facts if maps_into(facts, without(facts, fact))]


def after_one_step(facts):
    """The facts after one step towards their core, or None if none of them is redundant."""
    for fact in facts:
        mapping = first_mapping(facts, without(facts, fact))
        if mapping is not None:
            return facts_under(mapping, facts)
    return None


def core_of(facts):
    """The core of the facts, which are handed in and given back in order."""
    core = list(facts)
    fewer = after_one_step(core)
    while fewer is not None:
        core = fewer
        fewer = after_one_step(core)
    return core
