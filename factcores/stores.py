"""The two stores, and the calls on them."""

from factcores.cores import core_of, redundant_facts
from factcores.facts import FIRST_UNKNOWN, unknowns_of, without
from factcores.isomorphisms import first_isomorphism, renamed
from factcores.mappings import are_equivalent, first_mapping

BEGINS = 0
FACT = 1
GONE = 2
FACTS = 3
CORE = 4
SPARE = 5
MAP = 6
SAME = 7
ALIKE = 8
KEEP = 9

# How many arguments a call has, by its number.
ARGUMENT_COUNTS = (0, 4, 4, 1, 1, 1, 1, 0, 0, 1)

KNOWN_END = 20
LAST_UNKNOWN = 199
MOST_FACTS = 6
MOST_UNKNOWNS = 4

NOT_PERMITTED = -1
NO_SUCH_STORE = -2
NOT_CONTAINED = -3
CONTAINED = -4
TOO_MANY = -7


def is_permitted_value(value):
    return value < KNOWN_END or FIRST_UNKNOWN <= value <= LAST_UNKNOWN


def is_permitted(fact):
    return fact[0] in (0, 1) and is_permitted_value(fact[1]) and is_permitted_value(fact[2])


def listed(facts):
    """The answer that tells these facts."""
    numbers = [len(facts)]
    for fact in facts:
        numbers.extend(fact)
    return numbers


def told(mapping):
    """The answer that tells this mapping, or that there is none."""
    if mapping is None:
        return [0]
    numbers = [1]
    for value in sorted(mapping):
        numbers.append(value)
        numbers.append(mapping[value])
    return numbers


class Stores:
    """Two stores: of each its facts, in order. Each method gives back the answer to one call."""

    def __init__(self):
        self.held = [[], []]

    def begins(self):
        self.held = [[], []]
        return [0]

    def fact(self, store, new):
        held = self.held[store]
        if not is_permitted(new):
            return [NOT_PERMITTED]
        if new in held:
            return [CONTAINED]
        longer = sorted(held + [new])
        if len(longer) > MOST_FACTS or len(unknowns_of(longer)) > MOST_UNKNOWNS:
            return [TOO_MANY]
        self.held[store] = longer
        return [len(longer)]

    def gone(self, store, old):
        held = self.held[store]
        if old not in held:
            return [NOT_CONTAINED]
        shorter = without(held, old)
        self.held[store] = shorter
        return [len(shorter)]

    def facts(self, store):
        return listed(self.held[store])

    def core(self, store):
        return listed(core_of(self.held[store]))

    def spare(self, store):
        return listed(redundant_facts(self.held[store]))

    def into_other(self, store):
        return told(first_mapping(self.held[store], self.held[1 - store]))

    def same(self):
        if are_equivalent(self.held[0], self.held[1]):
            return [1]
        return [0]

    def alike(self):
        return told(first_isomorphism(self.held[0], self.held[1]))

    def keep(self, store):
        self.held[store] = renamed(core_of(self.held[store]))
        return listed(self.held[store])


def answer_on_one(stores, number, store, fact):
    """The answer to a call that names a store; the fact counts for fact and gone alone."""
    # Every call that names a store lists this error first.
    if store not in (0, 1):
        return [NO_SUCH_STORE]
    if number == FACT:
        return stores.fact(store, fact)
    if number == GONE:
        return stores.gone(store, fact)
    if number == FACTS:
        return stores.facts(store)
    if number == CORE:
        return stores.core(store)
    if number == SPARE:
        return stores.spare(store)
    if number == MAP:
        return stores.into_other(store)
    return stores.keep(store)


def answer(stores, number, arguments):
    """The answer to one call: the integers of its result, or its error alone."""
    if number == BEGINS:
        return stores.begins()
    if number == SAME:
        return stores.same()
    if number == ALIKE:
        return stores.alike()
    return answer_on_one(stores, number, arguments[0], tuple(arguments[1:]))


def answers(calls):
    """The answers to the calls on two new stores, each behind its length."""
    stores = Stores()
    answered = []
    start = 0
    while start < len(calls):
        number = calls[start]
        end = start + 1 + ARGUMENT_COUNTS[number]
        result = answer(stores, number, calls[start + 1:end])
        answered.append(len(result))
        answered.extend(result)
        start = end
    return answered
