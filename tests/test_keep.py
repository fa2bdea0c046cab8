"""The call keep: what it answers and what the store is afterwards, and its error. Point 6."""

import itertools
import unittest

import by_words
import many_stores
from asking import (alike, ask, core, fact, facts, filling, gone, keep, last_answer, listing, mapping, same, spare,
                    told_facts)

TWO_STEPS = [(0, 1, 100), (0, 1, 101), (1, 1, 102), (1, 1, 103), (1, 103, 103)]
KEPT_OF_TWO_STEPS = [(0, 1, 100), (1, 1, 101), (1, 101, 101)]
OTHER_STORE = [(0, 1, 150), (0, 1, 160), (1, 170, 170)]


class KeepTests(unittest.TestCase):
    def keep_is(self, held, expected):
        """In either store, in whatever order the facts were added; the store holds afterwards what was answered."""
        for order in (held, held[::-1], held[1:] + held[:1]):
            for store in (0, 1):
                answers = ask(*filling(store, order), keep(store), facts(store), keep(store), facts(1 - store))
                self.assertEqual(answers[-4:], [listing(expected)] * 3 + [[0]])


class WhatIsAnswered(KeepTests):
    def test_an_empty_store(self):
        self.assertEqual(ask(keep(0), keep(1), facts(0), facts(1)), [[0], [0], [0], [0]])
        self.assertEqual(ask(fact(0, 0, 1, 100), gone(0, 0, 1, 100), keep(0), facts(0))[-2:], [[0], [0]])

    def test_a_store_without_unknown_values(self):
        self.keep_is([(0, 1, 2)], [(0, 1, 2)])
        held = [(0, 1, 2), (0, 2, 1), (0, 3, 3), (1, 0, 19), (1, 1, 2), (1, 5, 5)]
        self.keep_is(held, held)

    def test_redundant_facts_go(self):
        self.keep_is([(0, 1, 1), (0, 1, 100)], [(0, 1, 1)])
        self.keep_is([(0, 1, 100), (0, 1, 101), (1, 100, 7)], [(0, 1, 100), (1, 100, 7)])
        self.keep_is([(0, 1, 100), (0, 1, 101), (0, 1, 102)], [(0, 1, 100)])

    def test_more_than_one_step(self):
        self.assertEqual(len(by_words.steps(TWO_STEPS)) - 1, 2)
        self.keep_is(TWO_STEPS, KEPT_OF_TWO_STEPS)


class Renaming(KeepTests):
    def test_one_unknown_value(self):
        self.keep_is([(0, 1, 199)], [(0, 1, 100)])
        self.keep_is([(1, 150, 150)], [(1, 100, 100)])

    def test_unknown_values_that_are_named_so_already(self):
        four = [(0, 1, 100), (0, 2, 101), (0, 3, 102), (0, 4, 103)]
        for held in [[(0, 1, 100)], [(0, 100, 101), (0, 101, 100)], four]:
            self.keep_is(held, held)

    def test_in_ascending_order_wherever_they_stand(self):
        self.keep_is([(0, 1, 180), (0, 2, 120), (1, 150, 3)], [(0, 1, 102), (0, 2, 100), (1, 101, 3)])
        self.keep_is([(0, 199, 101), (0, 101, 1)], [(0, 100, 1), (0, 101, 100)])
        self.keep_is([(0, 1, 103), (0, 2, 102), (0, 3, 101), (0, 4, 190)],
                     [(0, 1, 102), (0, 2, 101), (0, 3, 100), (0, 4, 103)])

    def test_some_are_named_so_already(self):
        self.keep_is([(0, 1, 100), (0, 2, 102)], [(0, 1, 100), (0, 2, 101)])
        self.keep_is([(0, 1, 101), (0, 2, 103)], [(0, 1, 100), (0, 2, 101)])

    def test_to_names_that_others_of_the_store_had(self):
        self.keep_is([(0, 101, 102), (0, 101, 1), (0, 1, 102)], [(0, 1, 101), (0, 100, 1), (0, 100, 101)])
        self.keep_is([(0, 101, 102), (0, 102, 103), (0, 103, 5)], [(0, 100, 101), (0, 101, 102), (0, 102, 5)])
        self.keep_is([(0, 1, 101), (0, 2, 102), (0, 3, 103), (0, 4, 104)],
                     [(0, 1, 100), (0, 2, 101), (0, 3, 102), (0, 4, 103)])

    def test_to_names_that_redundant_facts_had(self):
        self.keep_is([(0, 1, 100), (0, 1, 101), (1, 101, 102)], [(0, 1, 100), (1, 100, 101)])
        self.keep_is([(0, 1, 100), (0, 1, 102), (1, 102, 101), (0, 101, 103)],
                     [(0, 1, 101), (0, 100, 102), (1, 101, 100)])

    def test_known_values_keep_theirs(self):
        self.keep_is([(0, 0, 19), (1, 19, 140), (1, 130, 0)], [(0, 0, 19), (1, 19, 101), (1, 100, 0)])

    def test_in_order_whatever_order_they_were_added_in(self):
        held = [(0, 2, 140), (0, 19, 3), (0, 130, 2), (0, 140, 130), (1, 1, 5)]
        expected = [(0, 2, 101), (0, 19, 3), (0, 100, 2), (0, 101, 100), (1, 1, 5)]
        for order in itertools.permutations(held):
            self.assertEqual(last_answer(*filling(0, order), keep(0)), listing(expected))

    def test_facts_keep_the_places_that_they_had_in_the_core(self):
        for held in many_stores.large_stores():
            of_the_store, kept = [told_facts(answer) for answer in ask(*filling(0, held), core(0), keep(0))[-2:]]
            names = dict(zip(by_words.unknowns_of(of_the_store), (100, 101, 102, 103)))
            self.assertEqual(kept, [(table, names.get(a, a), names.get(b, b)) for table, a, b in of_the_store])


class Afterwards(unittest.TestCase):
    def test_all_calls_speak_of_the_new_store(self):
        other = filling(1, [(0, 1, 7), (1, 1, 8), (1, 8, 8)])
        calls = [keep(0), facts(0), core(0), spare(0), mapping(0), same(), alike(), gone(0, 0, 1, 101)]
        kept = listing(KEPT_OF_TWO_STEPS)
        expected = [kept, kept, kept, [0], [1, 100, 7, 101, 8], [0], [0], [-3]]
        self.assertEqual(ask(*filling(0, TWO_STEPS), *other, *calls)[-8:], expected)

    def test_the_other_store_maps_into_the_new_store(self):
        calls = filling(0, [(0, 1, 110), (0, 1, 120), (1, 120, 2)]) + filling(1, [(0, 1, 150), (1, 150, 2)])
        expected = [[1, 150, 120], [0], [2, 0, 1, 100, 1, 100, 2], [1, 150, 100], [1, 100, 150], [1]]
        self.assertEqual(ask(*calls, mapping(1), alike(), keep(0), mapping(1), alike(), same())[-6:], expected)

    def test_spare_tells_none_and_keep_answers_the_same(self):
        answers = ask(*filling(1, TWO_STEPS), spare(1), keep(1), spare(1), keep(1), spare(1))[-5:]
        kept = listing(KEPT_OF_TWO_STEPS)
        self.assertEqual(answers[1:], [kept, [0], kept, [0]])
        self.assertNotEqual(answers[0], [0])

    def test_the_other_store_stays_as_it_was(self):
        for store in (0, 1):
            calls = filling(store, TWO_STEPS) + filling(1 - store, OTHER_STORE) + [keep(store), facts(1 - store)]
            answers = ask(*calls, facts(store))
            self.assertEqual(answers[-2:], [listing(OTHER_STORE), listing(KEPT_OF_TWO_STEPS)])

    def test_removed_facts_may_be_added_again(self):
        calls = [fact(0, 0, 1, 1), fact(0, 0, 1, 150), keep(0), gone(0, 0, 1, 150), fact(0, 0, 1, 150), facts(0)]
        self.assertEqual(ask(*calls)[2:], [[1, 0, 1, 1], [-3], [2], [2, 0, 1, 1, 0, 1, 150]])

    def test_renamed_facts_are_contained(self):
        calls = [fact(0, 0, 1, 150), keep(0), fact(0, 0, 1, 100), fact(0, 0, 1, 150), gone(0, 0, 1, 100), facts(0)]
        self.assertEqual(ask(*calls)[1:], [[1, 0, 1, 100], [-4], [2], [1], [1, 0, 1, 150]])

    def test_facts_may_be_added_up_to_the_limit(self):
        full = [(0, 1, 1), (0, 1, 100), (0, 1, 101), (0, 1, 102), (0, 1, 103), (0, 2, 2)]
        more = [(0, 3, 3), (0, 4, 4), (1, 5, 5), (1, 100, 101), (0, 6, 6)]
        answers = ask(*filling(0, full), fact(0, 0, 3, 3), keep(0), *filling(0, more), facts(0))[6:]
        held = sorted([(0, 1, 1), (0, 2, 2)] + more[:4])
        self.assertEqual(answers, [[-7], [2, 0, 1, 1, 0, 2, 2], [3], [4], [5], [6], [-7], listing(held)])

    def test_unknown_values_may_be_added_up_to_the_limit(self):
        held = [(0, 1, 150), (0, 1, 160), (0, 1, 170), (0, 1, 180)]
        more = [(1, 150, 160), (1, 150, 170), (1, 150, 100), (1, 160, 101), (1, 101, 5), (1, 160, 3)]
        answers = ask(*filling(0, held), fact(0, 1, 190, 1), keep(0), *filling(0, more), facts(0))[4:]
        expected = [[-7], [1, 0, 1, 100], [2], [3], [4], [-7], [-7], [5]]
        left = sorted([(0, 1, 100)] + more[:3] + more[5:])
        self.assertEqual(answers, expected + [listing(left)])

    def test_behind_begins_nothing_is_kept(self):
        self.assertEqual(ask(*filling(0, TWO_STEPS), keep(0), [0], facts(0), keep(0))[-2:], [[0], [0]])


class Refused(unittest.TestCase):
    def test_a_store_that_is_neither_0_nor_1_changes_nothing(self):
        for store in (2, 3, 100, 4294967295):
            calls = filling(0, TWO_STEPS) + filling(1, OTHER_STORE) + [keep(store), facts(0), facts(1)]
            self.assertEqual(ask(*calls)[-3:], [[-2], listing(TWO_STEPS), listing(OTHER_STORE)])
            self.assertEqual(last_answer(keep(store)), [-2])


class PointSix(many_stores.OnEachStore, unittest.TestCase):
    def check(self, held):
        calls = filling(0, held) + filling(1, held)
        kept, equivalent, of_the_kept, redundant = ask(*calls, keep(0), same(), core(0), spare(0))[-4:]
        self.assertEqual(kept, listing(sorted(by_words.kept(held))))
        self.assertEqual(equivalent, [1])
        self.assertTrue(by_words.equivalent(held, told_facts(kept)))
        self.assertEqual(of_the_kept, kept)
        self.assertEqual(redundant, [0])


if __name__ == "__main__":
    unittest.main()
