"""The call map: the mapping that it tells, and its error. Point 4."""

import unittest

import by_words
import many_stores
from asking import ask, facts, filling, gone, last_answer, listing, mapping, telling

FIRST_STORE = [(0, 1, 100), (1, 100, 101)]
SECOND_STORE = [(0, 1, 5), (1, 5, 150)]


class MapTests(unittest.TestCase):
    def map_is(self, held, others, expected):
        """From either store, in whatever order the facts were added; expected: a dict or None."""
        for order in (held, held[::-1]):
            self.assertEqual(last_answer(*filling(0, order), *filling(1, others), mapping(0)), telling(expected))
        for order in (others, others[::-1]):
            self.assertEqual(last_answer(*filling(0, order), *filling(1, held), mapping(1)), telling(expected))

    def none(self, held, others):
        self.map_is(held, others, None)


class TheTwoStores(MapTests):
    def test_each_into_the_other(self):
        calls = filling(0, FIRST_STORE) + filling(1, SECOND_STORE) + [mapping(0), mapping(1)]
        self.assertEqual(ask(*calls)[-2:], [[1, 100, 5, 101, 150], [0]])
        calls = filling(0, [(0, 1, 100)]) + filling(1, [(0, 1, 150), (0, 1, 160)]) + [mapping(0), mapping(1)]
        self.assertEqual(ask(*calls)[-2:], [[1, 100, 150], [1, 150, 100, 160, 100]])

    def test_they_are_not_changed(self):
        calls = filling(0, FIRST_STORE) + filling(1, SECOND_STORE)
        answers = ask(*calls, mapping(0), mapping(1), facts(0), facts(1), mapping(0))
        self.assertEqual(answers[-3:-1], [listing(FIRST_STORE), listing(SECOND_STORE)])
        self.assertEqual(answers[-1], answers[-5])

    def test_as_they_are_at_the_call(self):
        calls = filling(0, FIRST_STORE) + [mapping(0)] + filling(1, SECOND_STORE) + [mapping(0), gone(1, 0, 1, 5)]
        answers = ask(*calls, mapping(0))
        self.assertEqual([answers[2], answers[5], answers[7]], [[0], [1, 100, 5, 101, 150], [0]])

    def test_a_store_that_is_neither_0_nor_1(self):
        for store in (2, 3, 100, 4294967295):
            calls = filling(0, FIRST_STORE) + filling(1, SECOND_STORE) + [mapping(store), facts(0), facts(1)]
            self.assertEqual(ask(*calls)[-3:], [[-2], listing(FIRST_STORE), listing(SECOND_STORE)])
            self.assertEqual(last_answer(mapping(store)), [-2])


class EmptyStores(MapTests):
    def test_an_empty_store_into_an_empty_one(self):
        self.assertEqual(ask(mapping(0), mapping(1)), [[1], [1]])

    def test_an_empty_store_into_a_filled_one(self):
        for held in (FIRST_STORE, [(0, 1, 2)], [(1, 100, 100)]):
            self.map_is([], held, {})

    def test_a_filled_store_into_an_empty_one(self):
        for held in (FIRST_STORE, [(0, 1, 2)], [(1, 100, 100)]):
            self.none(held, [])


class WithoutUnknownValues(MapTests):
    def test_all_facts_are_in_the_other_store(self):
        self.map_is([(0, 1, 2)], [(0, 1, 2)], {})
        self.map_is([(0, 1, 2), (1, 3, 3)], [(0, 1, 2), (0, 4, 4), (1, 3, 3), (1, 100, 1)], {})

    def test_not_all_facts_are_in_the_other_store(self):
        self.none([(0, 1, 2)], [(0, 2, 1)])
        self.none([(0, 1, 2), (1, 3, 3)], [(0, 1, 2), (0, 3, 3)])
        self.none([(0, 1, 2)], [(0, 1, 100), (0, 100, 2), (0, 100, 101)])

    def test_one_fact_without_unknown_values_is_not_there(self):
        self.none([(0, 1, 100), (1, 3, 3)], [(0, 1, 2), (1, 3, 4)])
        self.map_is([(0, 1, 100), (1, 3, 3)], [(0, 1, 2), (1, 3, 3)], {100: 2})


class KnownAndUnknownValues(MapTests):
    def test_to_a_known_value(self):
        self.map_is([(0, 1, 100)], [(0, 1, 2)], {100: 2})
        self.map_is([(0, 1, 100)], [(0, 1, 0)], {100: 0})
        self.map_is([(1, 100, 100)], [(1, 19, 19)], {100: 19})

    def test_to_an_unknown_value(self):
        self.map_is([(0, 1, 100)], [(0, 1, 150)], {100: 150})
        self.map_is([(1, 199, 199)], [(1, 100, 100)], {199: 100})

    def test_to_both(self):
        self.map_is([(0, 1, 120), (1, 120, 110)], [(0, 1, 150), (1, 150, 3)], {110: 3, 120: 150})

    def test_the_same_unknown_values_in_both_stores(self):
        self.map_is([(0, 1, 100)], [(0, 1, 100)], {100: 100})
        self.map_is([(0, 1, 100), (0, 2, 101)], [(0, 1, 101), (0, 2, 100)], {100: 101, 101: 100})
        self.map_is([(0, 100, 101)], [(0, 101, 5)], {100: 101, 101: 5})
        self.map_is([(0, 1, 100)], [(0, 1, 2), (1, 100, 100)], {100: 2})
        self.map_is([(0, 100, 101), (0, 101, 102)], [(0, 102, 101), (0, 101, 100)], {100: 102, 101: 101, 102: 100})

    def test_two_unknown_values_to_one_value(self):
        self.map_is([(0, 100, 101)], [(0, 150, 150)], {100: 150, 101: 150})
        self.map_is([(0, 1, 100), (0, 1, 101)], [(0, 1, 3)], {100: 3, 101: 3})

    def test_one_unknown_value_never_to_two_values(self):
        self.none([(0, 100, 100)], [(0, 1, 2)])
        self.none([(0, 100, 100)], [(0, 150, 151), (0, 151, 150)])
        self.none([(0, 1, 100), (1, 100, 2)], [(0, 1, 3), (1, 4, 2)])

    def test_a_known_value_that_the_other_store_does_not_contain(self):
        self.none([(0, 1, 100)], [(0, 2, 100)])
        self.none([(0, 100, 1)], [(0, 100, 101)])
        self.none([(0, 100, 101), (0, 101, 7)], [(0, 3, 4), (0, 4, 4)])

    def test_a_known_value_is_not_changed_to_an_unknown_one(self):
        self.none([(0, 1, 2)], [(0, 1, 100)])
        self.none([(0, 1, 1)], [(0, 100, 100)])


class Tables(MapTests):
    def test_a_fact_of_the_other_table_does_not_do(self):
        self.none([(0, 1, 100)], [(1, 1, 2)])
        self.none([(1, 1, 100)], [(0, 1, 2)])
        self.none([(0, 100, 101), (1, 100, 101)], [(0, 1, 2), (1, 2, 1)])

    def test_one_mapping_for_both(self):
        self.map_is([(0, 1, 100), (1, 1, 100)], [(0, 1, 2), (0, 1, 3), (1, 1, 3), (1, 1, 4)], {100: 3})
        self.map_is([(0, 100, 101), (1, 101, 100)], [(0, 1, 2), (0, 2, 3), (1, 3, 2)], {100: 2, 101: 3})


class TheFirst(MapTests):
    def test_smaller_values_first(self):
        self.map_is([(0, 1, 100)], [(0, 1, 101), (0, 1, 19), (0, 1, 3), (0, 1, 100)], {100: 3})
        self.map_is([(0, 1, 100)], [(0, 1, 150), (0, 1, 120), (0, 2, 110)], {100: 120})

    def test_the_smallest_unknown_value_decides_first(self):
        self.map_is([(0, 100, 101)], [(0, 1, 150), (0, 2, 3)], {100: 1, 101: 150})
        self.map_is([(0, 101, 100)], [(0, 1, 150), (0, 3, 2)], {100: 2, 101: 3})
        self.map_is([(0, 150, 100), (0, 1, 120)], [(0, 4, 3), (0, 2, 5), (0, 1, 6)], {100: 3, 120: 6, 150: 4})

    def test_then_the_next_one(self):
        others = [(0, 1, 2), (0, 2, 1), (0, 2, 2), (0, 3, 3)]
        self.map_is([(0, 100, 101), (0, 101, 102)], others, {100: 1, 101: 2, 102: 1})
        self.map_is([(0, 102, 101), (0, 101, 100)], others, {100: 1, 101: 2, 102: 1})

    def test_a_smaller_value_that_leads_nowhere(self):
        self.map_is([(0, 100, 101), (1, 101, 102)], [(0, 1, 2), (0, 3, 4), (1, 4, 1)], {100: 3, 101: 4, 102: 1})

    def test_values_of_facts_that_nothing_maps_to(self):
        self.map_is([(0, 100, 101)], [(1, 0, 0), (0, 7, 8), (1, 5, 6)], {100: 7, 101: 8})


class FourUnknownValues(MapTests):
    def test_one_mapping(self):
        path = [(0, 1, 100), (0, 100, 101), (0, 101, 102), (0, 102, 103), (0, 103, 2)]
        self.map_is(path, [(0, 1, 9), (0, 9, 8), (0, 8, 7), (0, 7, 6), (0, 6, 2)], {100: 9, 101: 8, 102: 7, 103: 6})
        self.none(path, [(0, 1, 9), (0, 9, 8), (0, 8, 7), (0, 7, 6), (0, 6, 3)])

    def test_each_for_itself(self):
        alone = [(0, 1, 130), (0, 2, 120), (0, 3, 110), (0, 4, 100)]
        self.map_is(alone, [(0, 1, 11), (0, 2, 12), (0, 3, 13), (0, 4, 14)], {100: 14, 110: 13, 120: 12, 130: 11})

    def test_the_first_of_many(self):
        square = [(0, 100, 101), (0, 101, 102), (0, 102, 103), (0, 103, 100)]
        self.map_is(square, [(0, 150, 5), (0, 5, 150), (0, 7, 160)], {100: 5, 101: 150, 102: 5, 103: 150})
        self.map_is([(0, 100, 103), (1, 101, 102)], [(0, 2, 3), (0, 1, 4), (1, 6, 5)], {100: 1, 101: 6, 102: 5, 103: 4})


class PointFour(many_stores.OnEachPair, unittest.TestCase):
    def check(self, held, others):
        calls = filling(0, held) + filling(1, others) + [mapping(0), mapping(1)]
        into_second, into_first = ask(*calls)[-2:]
        self.assertEqual(into_second, telling(by_words.first_mapping(held, others)))
        self.assertEqual(into_first, telling(by_words.first_mapping(others, held)))
        self.maps_all(into_second, held, others)
        self.maps_all(into_first, others, held)

    def maps_all(self, answer, held, others):
        if answer != [0]:
            assigned = dict(zip(answer[1::2], answer[2::2]))
            self.assertEqual(list(assigned), by_words.unknowns_of(held))
            self.assertLessEqual(by_words.under(assigned, held), set(others))


if __name__ == "__main__":
    unittest.main()
