"""Many stores and pairs of stores, the same ones each time, to try a promise on all of them."""

import itertools


def small_stores():
    """All stores of up to three facts over a few values, and some of each kind over both tables."""
    possible = list(itertools.product((0,), (1, 100, 101, 102), (1, 100, 101, 102)))
    for count in range(4):
        yield from itertools.combinations(possible, count)
    yield from itertools.combinations(itertools.product((0, 1), (2, 101, 102), (2, 101, 103)), 3)


def tiny_stores():
    """All stores of up to two facts over three values, few enough to pair each with each."""
    possible = list(itertools.product((0,), (1, 100, 101), (1, 100, 101)))
    for count in range(3):
        yield from itertools.combinations(possible, count)


class Draws:
    """Numbers that look drawn at random, the same ones each time."""

    def __init__(self, number):
        self.number = number

    def below(self, end):
        self.number = (self.number * 6364136223846793005 + 1442695040888963407) % 2 ** 64
        return (self.number >> 33) % end

    def one_of(self, choices):
        return choices[self.below(len(choices))]

    def in_any_order(self, members):
        left = list(members)
        return [left.pop(self.below(len(left))) for _ in members]

    def store(self, count, values):
        """A store of so many facts over the values, the most of them in table 0."""
        held = []
        while len(held) < count:
            one = (self.one_of((0, 0, 0, 0, 1)), self.one_of(values), self.one_of(values))
            if one not in held:
                held.append(one)
        return held


def large_stores():
    """Stores of six facts over up to four unknown values."""
    draws = Draws(1)
    for _ in range(400):
        yield draws.store(6, draws.one_of([(1, 2, 100, 101, 102, 103), (2, 100, 101, 102, 103)]))


def renamed_pairs():
    """Pairs of stores of which the second is the first with other names of its unknown values, or nearly so."""
    draws = Draws(2)
    for _ in range(400):
        first = draws.store(2 + draws.below(5), (1, 100, 101, 102, 103))
        names = dict(zip((100, 101, 102, 103), draws.in_any_order((101, 103, 120, 150))))
        second = [(table, names.get(a, a), names.get(b, b)) for table, a, b in first]
        if draws.below(3) == 0:
            table, a, b = second.pop()
            second.append(draws.one_of([(1 - table, a, b), (table, b, a), (table, a, 1)]))
        yield first, sorted(set(second))


def mapped_pairs():
    """Pairs of stores of which the first maps into the second, or nearly so."""
    draws = Draws(3)
    for _ in range(400):
        first = draws.store(1 + draws.below(4), (1, 100, 101, 102, 103))
        changed = {unknown: draws.one_of((1, 2, 3, 101, 102, 105)) for unknown in (100, 101, 102, 103)}
        second = sorted({(table, changed.get(a, a), changed.get(b, b)) for table, a, b in first})
        if draws.below(3) == 0:
            second.pop()
        yield first, sorted(set(second + draws.store(2, (1, 2, 101, 102))))


def pairs():
    yield from itertools.product(tiny_stores(), repeat=2)
    yield from renamed_pairs()
    yield from mapped_pairs()


class OnEachStore:
    """For a test case with a method check that takes a store."""

    def test_small_stores(self):
        for held in small_stores():
            self.check(held)

    def test_large_stores(self):
        for held in large_stores():
            self.check(held)


class OnEachPair:
    """For a test case with a method check that takes two stores."""

    def test_pairs(self):
        for first, second in pairs():
            self.check(first, second)
