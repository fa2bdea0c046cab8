"""The call alike: the isomorphism from store 0 to store 1 that it tells."""

import itertools
import unittest

import by_words
import many_stores
from asking import alike, ask, fact, facts, filling, gone, last_answer, listing, mapping, same, telling

SQUARE = [(0, 100, 101), (0, 101, 102), (0, 102, 103), (0, 103, 100)]


class AlikeTests(unittest.TestCase):
    def alike_is(self, first, second, expected):
        """In whatever order the facts were added; expected: a dict or None."""
        for orders in ((first, second), (first[::-1], second), (first, second[::-1])):
            calls = filling(0, orders[0]) + filling(1, orders[1])
            self.assertEqual(last_answer(*calls, alike()), telling(expected))

    def none(self, first, second):
        """Neither from the first to the second nor back."""
        self.alike_is(first, second, None)
        self.alike_is(second, first, None)


class NoUnknownValues(AlikeTests):
    def test_two_empty_stores(self):
        self.assertEqual(ask(alike()), [[1]])
        self.assertEqual(last_answer(fact(1, 0, 1, 100), gone(1, 0, 1, 100), alike()), [1])

    def test_equal_stores(self):
        self.alike_is([(0, 1, 2)], [(0, 1, 2)], {})
        self.alike_is([(0, 1, 2), (1, 3, 3), (1, 0, 19)], [(1, 0, 19), (0, 1, 2), (1, 3, 3)], {})

    def test_other_stores(self):
        self.none([(0, 1, 2)], [(0, 2, 1)])
        self.none([(0, 1, 2)], [(1, 1, 2)])
        self.none([(0, 1, 2), (0, 1, 3)], [(0, 1, 2), (0, 1, 4)])


class UnlikeStores(AlikeTests):
    def test_one_empty_and_one_filled(self):
        for held in ([(0, 1, 2)], [(0, 1, 100)], SQUARE):
            self.none([], held)

    def test_unlike_numbers_of_facts(self):
        self.none([(0, 1, 2)], [(0, 1, 2), (0, 1, 3)])
        self.none([(0, 100, 101)], [(0, 100, 101), (0, 101, 100)])
        self.none([(0, 1, 100)], [(0, 1, 100), (0, 2, 3)])

    def test_unlike_numbers_of_unknown_values(self):
        self.none([(0, 100, 101)], [(0, 100, 100)])
        self.none([(0, 1, 100), (0, 2, 101)], [(0, 1, 100), (0, 2, 100)])
        self.none([(0, 1, 100), (0, 2, 3)], [(0, 1, 100), (0, 2, 101)])

    def test_none_is_assigned_to_a_known_value(self):
        self.none([(0, 1, 100)], [(0, 1, 2)])
        self.none([(0, 100, 101)], [(0, 100, 5)])
        self.none([(0, 100, 1), (1, 5, 100)], [(0, 2, 1), (1, 5, 2)])

    def test_none_is_assigned_twice(self):
        self.none([(0, 100, 101), (0, 102, 100)], [(0, 150, 150), (0, 151, 152)])
        self.none([(0, 1, 100), (0, 1, 101)], [(0, 1, 100), (0, 2, 101)])
        self.none([(0, 1, 100), (0, 1, 101), (1, 2, 102)], [(0, 1, 100), (1, 2, 101), (1, 2, 102)])

    def test_known_values_and_tables_count(self):
        self.none([(0, 1, 100)], [(0, 2, 100)])
        self.none([(0, 1, 100)], [(1, 1, 100)])
        self.none([(0, 1, 100)], [(0, 100, 1)])

    def test_equivalent_stores(self):
        for first, second in [([(0, 1, 100)], [(0, 1, 100), (0, 1, 101)]), ([(0, 1, 2)], [(0, 1, 2), (0, 100, 2)])]:
            self.assertEqual(last_answer(*filling(0, first), *filling(1, second), same()), [1])
            self.none(first, second)

    def test_equivalent_stores_with_as_many_facts_and_unknown_values(self):
        loops = [[(0, 100, 100), other] for other in [(0, 100, 101), (0, 101, 100)]]
        stars = [[(0, 1, 2), (0, 1, 100), other] for other in [(0, 1, 101), (0, 101, 2)]]
        # Each unknown value stands once in the first place and once in the second.
        rings = [[(0, 100, 100), (0, 101, 102), (0, 102, 103), (0, 103, 101)],
                 [(0, 100, 100), (0, 101, 102), (0, 102, 101), (0, 103, 103)]]
        for first, second in [loops, stars, rings]:
            answers = ask(*filling(0, first), *filling(1, second), same(), mapping(0), mapping(1))
            self.assertEqual([answer[0] for answer in answers[-3:]], [1, 1, 1])
            self.none(first, second)

    def test_as_many_facts_of_each_unknown_value(self):
        self.none(SQUARE, [(0, 100, 101), (0, 101, 100), (0, 102, 103), (0, 103, 102)])


class Isomorphisms(AlikeTests):
    def test_one_unknown_value(self):
        self.alike_is([(0, 1, 100), (1, 100, 7)], [(0, 1, 150), (1, 150, 7)], {100: 150})
        self.alike_is([(1, 150, 150)], [(1, 100, 100)], {150: 100})

    def test_equal_stores(self):
        self.alike_is([(0, 1, 100), (1, 101, 2)], [(0, 1, 100), (1, 101, 2)], {100: 100, 101: 101})

    def test_it_is_from_store_0_to_store_1(self):
        first, second = [(0, 1, 100), (0, 2, 103), (0, 3, 105)], [(0, 1, 111), (0, 2, 112), (0, 3, 110)]
        self.alike_is(first, second, {100: 111, 103: 112, 105: 110})
        self.alike_is(second, first, {110: 105, 111: 100, 112: 103})

    def test_not_in_the_order_of_the_values(self):
        self.alike_is([(0, 1, 100), (0, 2, 101)], [(0, 1, 101), (0, 2, 100)], {100: 101, 101: 100})
        self.alike_is([(0, 100, 101), (0, 101, 1)], [(0, 102, 100), (0, 100, 1)], {100: 102, 101: 100})

    def test_the_same_unknown_values_in_both_stores(self):
        self.alike_is([(0, 100, 101), (0, 101, 102)], [(0, 101, 102), (0, 102, 103)], {100: 101, 101: 102, 102: 103})

    def test_known_values_too(self):
        first = [(0, 1, 100), (0, 1, 2), (1, 101, 3), (1, 3, 3)]
        self.alike_is(first, [(0, 1, 121), (0, 1, 2), (1, 120, 3), (1, 3, 3)], {100: 121, 101: 120})
        self.none(first, [(0, 1, 121), (0, 1, 2), (1, 120, 3), (1, 4, 4)])

    def test_redundant_facts_too(self):
        self.alike_is([(0, 1, 1), (0, 1, 100)], [(0, 1, 1), (0, 1, 190)], {100: 190})


class TheFirst(AlikeTests):
    def test_smaller_values_first(self):
        self.alike_is([(0, 1, 100), (0, 1, 101)], [(0, 1, 160), (0, 1, 150)], {100: 150, 101: 160})
        self.alike_is([(0, 101, 100), (0, 100, 101)], [(0, 160, 150), (0, 150, 160)], {100: 150, 101: 160})

    def test_the_smallest_unknown_value_decides_first(self):
        first = [(0, 100, 103), (0, 101, 102)]
        self.alike_is(first, [(0, 120, 121), (0, 122, 123)], {100: 120, 101: 122, 102: 123, 103: 121})
        self.alike_is(first, [(0, 122, 120), (0, 123, 121)], {100: 122, 101: 123, 102: 121, 103: 120})

    def test_round_a_square(self):
        other = [(0, 150, 152), (0, 152, 151), (0, 151, 153), (0, 153, 150)]
        self.alike_is(SQUARE, other, {100: 150, 101: 152, 102: 151, 103: 153})
        self.alike_is(other, SQUARE, {150: 100, 151: 102, 152: 101, 153: 103})

    def test_a_smaller_value_that_leads_nowhere(self):
        self.alike_is([(0, 1, 100), (0, 1, 101), (1, 100, 2)], [(0, 1, 120), (0, 1, 121), (1, 121, 2)],
                      {100: 121, 101: 120})


class FourUnknownValues(AlikeTests):
    def test_backwards(self):
        first = [(0, 1, 100), (0, 100, 101), (0, 101, 102), (0, 102, 103)]
        second = [(0, 1, 183), (0, 183, 182), (0, 182, 181), (0, 181, 180)]
        self.alike_is(first, second, {100: 183, 101: 182, 102: 181, 103: 180})

    def test_every_order(self):
        for second in itertools.permutations((120, 140, 160, 180)):
            facts_of_first = [(0, place, value) for place, value in enumerate((100, 101, 102, 103))]
            facts_of_second = [(0, place, value) for place, value in enumerate(second)]
            self.alike_is(facts_of_first, facts_of_second, dict(zip((100, 101, 102, 103), second)))

    def test_the_first_of_twenty_four(self):
        first = [(0, 1, value) for value in (100, 101, 102, 103)]
        second = [(0, 1, value) for value in (163, 160, 162, 161)]
        self.alike_is(first, second, {100: 160, 101: 161, 102: 162, 103: 163})


class TheStores(AlikeTests):
    def test_they_are_not_changed(self):
        first, second = [(0, 1, 100), (0, 1, 101)], [(0, 1, 150), (0, 1, 160)]
        answers = ask(*filling(0, first), *filling(1, second), alike(), facts(0), facts(1), alike())
        expected = telling({100: 150, 101: 160})
        self.assertEqual(answers[-4:], [expected, listing(first), listing(second), expected])

    def test_as_they_are_at_the_call(self):
        calls = [alike(), fact(0, 0, 1, 100), alike(), fact(1, 0, 1, 102), alike(), gone(0, 0, 1, 100), alike()]
        self.assertEqual(ask(*calls)[::2], [[1], [0], [1, 100, 102], [0]])


class ManyPairs(many_stores.OnEachPair, unittest.TestCase):
    def check(self, first, second):
        answer = last_answer(*filling(0, first), *filling(1, second), alike())
        self.assertEqual(answer, telling(by_words.first_isomorphism(first, second)))
        if answer != [0]:
            assigned = dict(zip(answer[1::2], answer[2::2]))
            self.assertEqual(list(assigned), by_words.unknowns_of(first))
            self.assertEqual(sorted(assigned.values()), by_words.unknowns_of(second))
            self.assertEqual(by_words.under(assigned, first), set(second))


if __name__ == "__main__":
    unittest.main()
