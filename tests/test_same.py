"""The call same: whether the stores are equivalent. Points 2 and 3."""

import unittest

import by_words
import many_stores
from asking import alike, ask, fact, facts, filling, gone, keep, last_answer, listing, mapping, same, spare

LOOP = [(0, 100, 100)]
EDGE = [(0, 100, 101)]


class SameTests(unittest.TestCase):
    def same_is(self, held, others, expected):
        """Whichever of the two is store 0."""
        self.assertEqual(last_answer(*filling(0, held), *filling(1, others), same()), [expected])
        self.assertEqual(last_answer(*filling(0, others), *filling(1, held), same()), [expected])


class EmptyStores(SameTests):
    def test_two_empty_stores(self):
        self.assertEqual(ask(same()), [[1]])
        self.assertEqual(last_answer(fact(0, 0, 1, 1), gone(0, 0, 1, 1), same()), [1])

    def test_one_empty_and_one_filled(self):
        for held in (LOOP, EDGE, [(0, 1, 2)], [(1, 100, 3), (1, 4, 4)]):
            self.same_is([], held, 0)


class OneWayAlone(SameTests):
    def test_the_one_maps_into_the_other_and_not_back(self):
        for held, others in [(EDGE, LOOP), ([(0, 1, 100)], [(0, 1, 2)]), ([(1, 3, 3)], [(1, 3, 3), (0, 3, 3)])]:
            calls = filling(0, held) + filling(1, others) + [mapping(0), mapping(1)]
            self.assertEqual([answer[0] for answer in ask(*calls)[-2:]], [1, 0])
            self.same_is(held, others, 0)

    def test_neither_way(self):
        self.same_is([(0, 1, 2)], [(0, 2, 1)], 0)
        self.same_is([(0, 1, 100)], [(1, 1, 100)], 0)
        self.same_is([(0, 100, 100), (1, 1, 1)], [(0, 1, 100), (0, 100, 1)], 0)


class BothWays(SameTests):
    def test_equal_stores(self):
        for held in (LOOP, EDGE, [(0, 1, 2)], [(0, 1, 100), (1, 100, 101), (1, 2, 102), (0, 102, 103)]):
            self.same_is(held, held, 1)

    def test_redundant_facts_in_one_store(self):
        self.same_is([(0, 1, 100), (0, 1, 101)], [(0, 1, 100)], 1)
        self.same_is([(0, 1, 2), (0, 1, 100), (0, 101, 102)], [(0, 1, 2)], 1)
        self.same_is(LOOP + [(0, 101, 102), (0, 103, 101)], [(0, 150, 150)], 1)

    def test_redundant_facts_in_both_stores(self):
        self.same_is([(0, 1, 2), (0, 1, 100)], [(0, 1, 2), (0, 100, 2), (0, 101, 102)], 1)

    def test_cores_that_differ_only_in_the_names_of_the_unknown_values(self):
        self.same_is(LOOP, [(0, 150, 150)], 1)
        self.same_is([(0, 1, 100), (0, 2, 101)], [(0, 1, 101), (0, 2, 100)], 1)
        self.same_is([(0, 1, 100), (1, 100, 7), (0, 1, 101)], [(0, 1, 120), (1, 120, 7), (1, 130, 7)], 1)

    def test_cores_that_differ_in_more(self):
        self.same_is([(0, 1, 100), (1, 100, 7)], [(0, 1, 100), (1, 100, 8)], 0)
        self.same_is([(0, 1, 100), (1, 100, 7)], [(0, 1, 100), (1, 101, 7)], 0)

    def test_the_stores_are_not_changed(self):
        held = [(0, 1, 100), (0, 1, 101)]
        answers = ask(*filling(0, held), *filling(1, [(0, 1, 150)]), same(), facts(0), facts(1), same())
        self.assertEqual(answers[-4:], [[1], listing(held), [1, 0, 1, 150], [1]])

    def test_as_they_are_at_the_call(self):
        calls = [same(), fact(0, 0, 1, 100), same(), fact(1, 0, 1, 2), same(), fact(0, 0, 1, 2), same()]
        self.assertEqual(ask(*calls)[::2], [[1], [0], [0], [1]])


class PointsTwoAndThree(many_stores.OnEachPair, unittest.TestCase):
    def check(self, held, others):
        calls = filling(0, held) + filling(1, others)
        equivalent, redundant = ask(*calls, same(), spare(1))[-2:]
        self.assertEqual(equivalent, [int(by_words.equivalent(held, others))])
        cores_alike = last_answer(*calls, keep(0), keep(1), alike())
        self.assertEqual(equivalent, cores_alike[:1])
        self.assertEqual(equivalent == [1], by_words.first_isomorphism(
            by_words.core(held), by_words.core(others)) is not None)
        if redundant == [0]:
            self.assertEqual(equivalent, last_answer(*calls, keep(0), alike())[:1])

    def test_equivalent_stores_map_into_the_same_sets(self):
        stores = list(many_stores.tiny_stores())
        into = {}
        for held in stores:
            reached = [last_answer(*filling(0, held), *filling(1, goals), mapping(0))[0] for goals in stores]
            into[held] = reached
        for held in stores:
            for others in stores:
                equivalent = last_answer(*filling(0, held), *filling(1, others), same())
                self.assertEqual(equivalent, [int(into[held] == into[others])])


if __name__ == "__main__":
    unittest.main()
