"""Calls as the interface hands them in, and the answered list taken apart call by call."""

from factcores.stores import answers


def begins():
    return [0]


def fact(store, table, a, b):
    return [1, store, table, a, b]


def gone(store, table, a, b):
    return [2, store, table, a, b]


def facts(store):
    return [3, store]


def core(store):
    return [4, store]


def spare(store):
    return [5, store]


def mapping(store):
    return [6, store]


def same():
    return [7]


def alike():
    return [8]


def keep(store):
    return [9, store]


def filling(store, wanted):
    """The calls that add the wanted facts to a store, in the order given."""
    return [fact(store, *one) for one in wanted]


def listing(wanted):
    """The answer that tells the wanted facts, in the order given."""
    return [len(wanted)] + [number for one in wanted for number in one]


def telling(assigned):
    """The answer that tells the mapping with these values, or with None that there is none."""
    if assigned is None:
        return [0]
    return [1] + [number for unknown in sorted(assigned) for number in (unknown, assigned[unknown])]


def told_facts(answer):
    """The facts that an answer lists."""
    listed = [tuple(answer[start:start + 3]) for start in range(1, len(answer), 3)]
    if listing(listed) != answer:
        raise AssertionError(f"the number of facts does not fit: {answer}")
    return listed


def joined(calls):
    return [number for call in calls for number in call]


def taken_apart(answered):
    parts = []
    start = 0
    while start < len(answered):
        end = start + 1 + answered[start]
        parts.append(answered[start + 1:end])
        start = end
    if joined([len(part)] + part for part in parts) != answered:
        raise AssertionError(f"the counts do not fit: {answered}")
    return parts


def ask(*calls):
    """The answer to each of the calls, which are made in one list."""
    parts = taken_apart(answers(joined(calls)))
    if len(parts) != len(calls):
        raise AssertionError(f"{len(calls)} calls, {len(parts)} answers")
    return parts


def last_answer(*calls):
    return ask(*calls)[-1]
