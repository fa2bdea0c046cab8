"""The call spare: which facts it lists, in which order, and its error. Point 5."""

import unittest

import by_words
import many_stores
from asking import ask, core, fact, facts, filling, gone, keep, last_answer, listing, mapping, same, spare, told_facts

LOOP_AND_TAIL = [(0, 100, 101), (0, 101, 102), (0, 102, 102)]
OTHER_STORE = [(0, 1, 101), (0, 1, 100)]


class SpareTests(unittest.TestCase):
    def spare_is(self, held, expected):
        """In either store, in whatever order the facts were added."""
        for order in (held, held[::-1], held[1:] + held[:1]):
            self.assertEqual(last_answer(*filling(0, order), spare(0)), listing(expected))
        self.assertEqual(last_answer(*filling(1, held), spare(1)), listing(expected))


class NoneRedundant(SpareTests):
    def test_an_empty_store(self):
        self.assertEqual(ask(spare(0), spare(1)), [[0], [0]])
        self.assertEqual(last_answer(fact(0, 0, 1, 100), gone(0, 0, 1, 100), spare(0)), [0])

    def test_a_store_without_unknown_values(self):
        self.spare_is([(0, 1, 1)], [])
        self.spare_is([(0, 1, 2), (0, 1, 3), (0, 1, 4), (1, 1, 2), (1, 1, 3), (1, 1, 4)], [])

    def test_one_fact(self):
        for one in [(0, 100, 100), (1, 100, 101), (0, 199, 3), (1, 3, 150)]:
            self.spare_is([one], [])

    def test_unknown_values(self):
        self.spare_is([(0, 1, 100), (1, 100, 7)], [])
        self.spare_is([(0, 1, 100), (0, 2, 101)], [])
        self.spare_is([(0, 100, 101), (0, 101, 100)], [])
        self.spare_is([(0, 1, 100), (1, 1, 101)], [])
        self.spare_is([(0, 1, 100), (0, 101, 1), (0, 2, 3)], [])

    def test_six_facts_with_four_unknown_values(self):
        square = [(0, 100, 101), (0, 101, 102), (0, 102, 103), (0, 103, 100)]
        self.spare_is(square + [(1, 5, 100), (1, 6, 102)], [])


class SomeRedundant(SpareTests):
    def test_one(self):
        self.spare_is([(0, 1, 1), (0, 1, 100)], [(0, 1, 100)])
        self.spare_is([(0, 1, 100), (0, 1, 101), (1, 100, 7)], [(0, 1, 101)])
        self.spare_is([(0, 1, 100), (0, 1, 101), (1, 101, 7)], [(0, 1, 100)])
        self.spare_is([(0, 100, 101), (1, 102, 102), (1, 103, 1)], [])
        self.spare_is([(0, 102, 103), (1, 103, 104), (0, 3, 4), (1, 4, 5), (1, 103, 7)], [(1, 103, 104)])

    def test_each_of_two_but_not_both_together(self):
        self.spare_is([(0, 1, 100), (0, 1, 101)], [(0, 1, 100), (0, 1, 101)])
        self.assertEqual(ask(fact(0, 0, 1, 100), fact(0, 0, 1, 101), gone(0, 0, 1, 100), spare(0))[-1], [0])

    def test_several_in_order(self):
        self.spare_is(LOOP_AND_TAIL, [(0, 100, 101), (0, 101, 102)])
        held = [(1, 104, 3), (1, 100, 3), (0, 104, 2), (0, 2, 100), (0, 2, 2), (1, 2, 3)]
        self.spare_is(held, [(0, 2, 100), (0, 104, 2), (1, 100, 3), (1, 104, 3)])

    def test_by_numbers_and_not_as_texts(self):
        held = [(0, 100, 101), (0, 19, 101), (0, 3, 102), (0, 3, 3), (0, 19, 3)]
        self.spare_is(held, [(0, 3, 102), (0, 19, 101), (0, 100, 101)])

    def test_all_six(self):
        held = [(0, 1, 100), (0, 1, 101), (0, 1, 102), (1, 100, 2), (1, 101, 2), (1, 102, 2)]
        self.spare_is(held, held)

    def test_facts_without_unknown_values_are_never_among_them(self):
        held = [(0, 1, 2), (0, 2, 1), (0, 100, 101), (0, 101, 100), (1, 5, 5), (1, 5, 102)]
        self.spare_is(held, [(0, 100, 101), (0, 101, 100), (1, 5, 102)])

    def test_a_fact_that_goes_alone_with_others(self):
        self.spare_is([(0, 1, 2), (1, 2, 3), (0, 1, 100), (1, 100, 3)], [(0, 1, 100), (1, 100, 3)])
        self.spare_is([(0, 1, 2), (1, 2, 3), (0, 1, 100), (1, 100, 4)], [])

    def test_facts_out_of_the_core_are_more_than_the_store_can_lose(self):
        answers = ask(*filling(0, [(0, 1, 100), (0, 1, 101), (0, 1, 102)]), spare(0), core(0))
        self.assertEqual(answers[-2:], [[3, 0, 1, 100, 0, 1, 101, 0, 1, 102], [1, 0, 1, 101]])


class TheStores(SpareTests):
    def test_the_store_is_not_changed(self):
        for held in [LOOP_AND_TAIL, [(0, 1, 100), (0, 1, 101)], [(0, 1, 1)], []]:
            calls = filling(0, held) + filling(1, OTHER_STORE) + [spare(0), facts(0), facts(1), spare(0)]
            answers = ask(*calls)[-4:]
            self.assertEqual(answers[1:3], [listing(held), listing(sorted(OTHER_STORE))])
            self.assertEqual(answers[0], answers[3])

    def test_facts_of_the_other_store_do_not_count(self):
        answers = ask(fact(0, 0, 1, 100), fact(1, 0, 1, 1), fact(1, 0, 1, 101), spare(0), spare(1))
        self.assertEqual(answers[-2:], [[0], [1, 0, 1, 101]])

    def test_from_call_to_call(self):
        calls = [fact(0, 0, 1, 100), spare(0), fact(0, 0, 1, 3), spare(0), fact(0, 1, 100, 2), spare(0)]
        self.assertEqual(ask(*calls)[1::2], [[0], [1, 0, 1, 100], [0]])

    def test_a_store_that_is_neither_0_nor_1(self):
        for store in (2, 3, 100, 4294967295):
            answers = ask(*filling(0, LOOP_AND_TAIL), *filling(1, OTHER_STORE), spare(store), facts(0), facts(1))
            self.assertEqual(answers[-3:], [[-2], listing(LOOP_AND_TAIL), listing(sorted(OTHER_STORE))])


class PointFive(many_stores.OnEachStore, unittest.TestCase):
    def redundant_by_the_other_store(self, held):
        """The facts without which store 1 is equivalent to store 0, by both kinds of asking."""
        found = []
        for one in sorted(held):
            rest = [other for other in held if other != one]
            calls = filling(0, held) + filling(1, rest) + [same(), mapping(0), mapping(1)]
            equivalent, into_rest, back = ask(*calls)[-3:]
            self.assertEqual(back[0], 1)
            self.assertEqual(equivalent, [into_rest[0]])
            if equivalent == [1]:
                found.append(one)
        return found

    def check(self, held):
        reported = told_facts(last_answer(*filling(0, held), spare(0)))
        self.assertEqual(reported, by_words.redundant(held))
        self.assertEqual(reported, self.redundant_by_the_other_store(held))

    def test_none_after_keep(self):
        for held in many_stores.large_stores():
            self.assertEqual(last_answer(*filling(1, held), keep(1), spare(1)), [0])


if __name__ == "__main__":
    unittest.main()
