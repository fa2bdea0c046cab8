"""The call core: which facts it lists, step by step, and its error."""

import unittest

import by_words
import many_stores
from asking import ask, core, fact, facts, filling, gone, keep, last_answer, listing, told_facts

SQUARE = [(0, 100, 101), (0, 101, 102), (0, 102, 103), (0, 103, 100)]
LINE_BOTH_WAYS = [(0, 100, 101), (0, 101, 100), (0, 101, 102), (0, 102, 101), (0, 102, 103), (0, 103, 102)]


class CoreTests(unittest.TestCase):
    def core_is(self, held, expected):
        """In either store, in whatever order the facts were added."""
        for order in (held, held[::-1], held[1:] + held[:1]):
            self.assertEqual(last_answer(*filling(0, order), core(0)), listing(expected))
        self.assertEqual(last_answer(*filling(1, held), core(1)), listing(expected))

    def own_core(self, held):
        self.core_is(held, sorted(held))


class OwnCores(CoreTests):
    def test_an_empty_store(self):
        self.assertEqual(ask(core(0), core(1)), [[0], [0]])
        self.assertEqual(last_answer(fact(0, 0, 1, 100), gone(0, 0, 1, 100), core(0)), [0])

    def test_a_store_without_unknown_values(self):
        self.own_core([(0, 1, 1)])
        self.own_core([(0, 1, 2), (0, 2, 1), (1, 1, 2), (1, 0, 19), (0, 3, 3), (1, 5, 5)])

    def test_one_fact(self):
        for one in [(0, 100, 100), (1, 100, 101), (0, 199, 3), (1, 3, 150)]:
            self.own_core([one])

    def test_unknown_values_that_nothing_makes_redundant(self):
        self.own_core([(0, 1, 100), (1, 100, 7)])
        self.own_core([(0, 100, 101), (0, 101, 100)])
        self.own_core([(0, 100, 101), (0, 101, 1)])
        self.own_core([(0, 100, 1), (0, 1, 100)])
        self.own_core([(0, 2, 100), (0, 100, 1), (0, 101, 1), (1, 101, 2)])

    def test_six_facts_with_four_unknown_values(self):
        self.own_core(SQUARE + [(1, 5, 100), (1, 6, 102)])


class RedundantFacts(CoreTests):
    def test_an_unknown_value_beside_a_known_one(self):
        self.core_is([(0, 1, 1), (0, 1, 100)], [(0, 1, 1)])
        self.core_is([(0, 1, 1), (0, 100, 101)], [(0, 1, 1)])

    def test_an_unknown_value_beside_one_of_which_more_is_told(self):
        self.core_is([(0, 1, 100), (0, 1, 101), (1, 100, 7)], [(0, 1, 100), (1, 100, 7)])
        self.core_is([(0, 1, 100), (0, 1, 101), (1, 101, 7)], [(0, 1, 101), (1, 101, 7)])

    def test_a_fact_of_two_unknown_values_beside_one_of_one(self):
        self.core_is([(0, 100, 101), (0, 102, 102)], [(0, 102, 102)])
        self.core_is([(0, 100, 100), (0, 101, 102)], [(0, 100, 100)])

    def test_the_facts_added_from_call_to_call(self):
        calls = [fact(0, 0, 1, 100), core(0), fact(0, 0, 1, 3), core(0), fact(0, 1, 100, 2), core(0)]
        calls = calls + [gone(0, 0, 1, 3), core(0)]
        expected = [[1, 0, 1, 100], [1, 0, 1, 3], [3, 0, 1, 3, 0, 1, 100, 1, 100, 2], [2, 0, 1, 100, 1, 100, 2]]
        self.assertEqual(ask(*calls)[1::2], expected)


class KnownValuesAndTables(CoreTests):
    def test_known_values_stay_as_they_are(self):
        self.own_core([(0, 1, 100), (0, 2, 3)])
        self.own_core([(0, 100, 1), (0, 3, 2)])
        self.own_core([(0, 19, 100), (0, 18, 100), (0, 17, 101)])
        self.core_is([(0, 1, 100), (0, 1, 3), (0, 2, 101)], [(0, 1, 3), (0, 2, 101)])

    def test_facts_of_one_table_do_not_make_those_of_the_other_redundant(self):
        self.own_core([(0, 1, 1), (1, 1, 100)])
        self.own_core([(0, 1, 1), (1, 100, 101)])
        self.own_core([(0, 100, 101), (1, 1, 1)])
        self.own_core([(0, 1, 1), (0, 100, 101), (1, 100, 101)])

    def test_one_mapping_for_both_tables(self):
        self.core_is([(0, 100, 101), (1, 100, 101), (0, 1, 1), (1, 1, 1)], [(0, 1, 1), (1, 1, 1)])
        self.own_core([(0, 1, 2), (1, 3, 4), (0, 1, 100), (1, 3, 100)])
        self.core_is([(0, 100, 1), (1, 100, 2), (0, 101, 1), (1, 101, 2)], [(0, 101, 1), (1, 101, 2)])

    def test_one_value_for_both_places_of_an_unknown_value(self):
        self.own_core([(0, 1, 2), (0, 100, 100)])
        self.own_core([(0, 1, 2), (0, 2, 3), (0, 100, 101), (0, 101, 100)])
        self.core_is([(0, 1, 2), (0, 2, 3), (0, 100, 101), (0, 101, 102)], [(0, 1, 2), (0, 2, 3)])


class Steps(CoreTests):
    def steps_are(self, count, held, expected):
        self.assertEqual(len(by_words.steps(held)) - 1, count)
        self.core_is(held, expected)

    def test_two_steps(self):
        self.steps_are(2, [(0, 100, 102), (0, 101, 102), (0, 102, 102)], [(0, 102, 102)])
        self.steps_are(2, [(0, 1, 100), (0, 1, 101), (1, 1, 102), (1, 1, 103), (1, 103, 103)],
                       [(0, 1, 101), (1, 1, 103), (1, 103, 103)])

    def test_three_steps(self):
        self.steps_are(3, [(0, 100, 101), (0, 102, 101), (0, 103, 101), (0, 103, 103)], [(0, 103, 103)])

    def test_facts_that_become_equal(self):
        self.steps_are(1, [(0, 1, 100), (0, 1, 101), (0, 1, 102), (0, 1, 103)], [(0, 1, 101)])
        self.steps_are(1, [(0, 1, 2), (0, 1, 100), (0, 1, 101), (0, 102, 2), (0, 103, 2)], [(0, 1, 2)])

    def test_six_facts_with_four_unknown_values(self):
        self.steps_are(1, SQUARE + [(0, 1, 2), (0, 2, 1)], [(0, 1, 2), (0, 2, 1)])
        self.steps_are(1, LINE_BOTH_WAYS, [(0, 101, 102), (0, 102, 101)])


class WhichFactsRemain(CoreTests):
    def test_the_first_redundant_fact(self):
        self.core_is([(0, 1, 100), (0, 1, 101)], [(0, 1, 101)])
        self.core_is([(1, 1, 102), (1, 1, 103)], [(1, 1, 103)])

    def test_the_first_one_by_the_first_value_ahead_of_the_second(self):
        self.core_is([(0, 100, 103), (0, 101, 102)], [(0, 101, 102)])

    def test_the_first_one_by_the_table_ahead_of_the_values(self):
        self.core_is([(0, 100, 2), (0, 100, 102), (1, 100, 101), (1, 100, 103)], [(0, 100, 2), (1, 100, 101)])

    def test_the_first_mapping(self):
        self.core_is([(0, 1, 100), (0, 1, 101), (0, 1, 102)], [(0, 1, 101)])
        self.core_is([(0, 100, 101), (0, 100, 102), (0, 103, 102)], [(0, 100, 102)])

    def test_the_first_mapping_by_the_smallest_unknown_value(self):
        self.core_is([(0, 101, 100), (0, 101, 101), (0, 102, 100), (0, 102, 102)], [(0, 102, 102)])

    def test_the_first_mapping_by_known_values_ahead_of_unknown_ones(self):
        self.core_is([(0, 1, 101), (0, 1, 102), (0, 1, 103), (0, 100, 101), (0, 100, 103)], [(0, 1, 102)])
        self.core_is([(0, 5, 101), (0, 5, 102), (0, 5, 103), (0, 100, 101), (0, 100, 103)], [(0, 5, 102)])


class TheStore(unittest.TestCase):
    def test_it_stays_as_it_was(self):
        for held in [LINE_BOTH_WAYS, [(0, 1, 100), (0, 1, 101), (0, 1, 102)], SQUARE]:
            calls = filling(0, held) + filling(1, held[:2]) + [core(0), facts(0), facts(1), core(0), facts(0)]
            answers = ask(*calls)[-5:]
            self.assertEqual([answers[1], answers[4]], [listing(held), listing(held)])
            self.assertEqual(answers[2], listing(held[:2]))
            self.assertEqual(answers[0], answers[3])

    def test_facts_that_are_not_in_the_core_are_still_there(self):
        calls = filling(0, [(0, 1, 1), (0, 1, 100)]) + [core(0), fact(0, 0, 1, 100), gone(0, 0, 1, 1), core(0)]
        self.assertEqual(ask(*calls)[2:], [[1, 0, 1, 1], [-4], [1], [1, 0, 1, 100]])

    def test_each_store_has_its_own_core(self):
        calls = filling(0, [(0, 1, 100), (0, 1, 101)]) + filling(1, [(0, 1, 100), (0, 1, 2)])
        self.assertEqual(ask(*calls, core(0), core(1))[-2:], [[1, 0, 1, 101], [1, 0, 1, 2]])

    def test_a_store_that_is_neither_0_nor_1(self):
        for store in (2, 3, 100, 4294967295):
            answers = ask(*filling(0, LINE_BOTH_WAYS), core(store), facts(0), facts(1))
            self.assertEqual(answers[-3:], [[-2], listing(LINE_BOTH_WAYS), [0]])


class PointOne(many_stores.OnEachStore, unittest.TestCase):
    def is_least_part(self, part, held):
        """The part is told in order, the whole maps into it, and none of its facts is redundant in it."""
        self.assertEqual(part, sorted(set(part)))
        self.assertTrue(by_words.maps_into(held, part))
        self.assertEqual(by_words.redundant(part), [])

    def check(self, held):
        answers = ask(*filling(0, held), core(0), keep(0), core(0))
        of_the_store, kept, of_the_kept = [told_facts(answer) for answer in answers[-3:]]
        self.is_least_part(of_the_store, held)
        self.assertLessEqual(set(of_the_store), set(held))
        self.assertEqual(set(of_the_store), by_words.core(held))
        self.is_least_part(kept, held)
        self.assertEqual(of_the_kept, kept)


if __name__ == "__main__":
    unittest.main()
