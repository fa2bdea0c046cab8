"""The call facts: what it lists, in which order, and its error."""

import itertools
import unittest

from asking import ask, facts, filling, gone, last_answer, listing

IN_ORDER = [(0, 2, 100), (0, 19, 3), (0, 100, 2), (1, 1, 5), (1, 1, 101), (1, 102, 0)]


class Listed(unittest.TestCase):
    def test_empty_stores(self):
        self.assertEqual(ask(facts(0), facts(1)), [[0], [0]])

    def test_table_then_first_value_then_second_value(self):
        for order in itertools.permutations(IN_ORDER):
            self.assertEqual(last_answer(*filling(0, order), facts(0)), listing(IN_ORDER))

    def test_numbers_are_not_ordered_as_texts(self):
        calls = filling(1, [(0, 100, 1), (0, 2, 100), (0, 2, 19), (0, 2, 3), (0, 19, 1)])
        expected = [(0, 2, 3), (0, 2, 19), (0, 2, 100), (0, 19, 1), (0, 100, 1)]
        self.assertEqual(last_answer(*calls, facts(1)), listing(expected))

    def test_the_order_stays_when_a_fact_is_removed(self):
        calls = filling(0, reversed(IN_ORDER)) + [gone(0, 0, 100, 2)]
        self.assertEqual(last_answer(*calls, facts(0)), listing(IN_ORDER[:2] + IN_ORDER[3:]))

    def test_the_stores_apart_from_one_another(self):
        calls = filling(0, IN_ORDER[:3]) + filling(1, IN_ORDER[2:])
        answers = ask(*calls, facts(1), facts(0), facts(1))
        self.assertEqual(answers[-3:], [listing(IN_ORDER[2:]), listing(IN_ORDER[:3]), listing(IN_ORDER[2:])])

    def test_redundant_facts_are_listed_too(self):
        self.assertEqual(last_answer(*filling(0, [(0, 100, 101), (0, 1, 1)]), facts(0)), [2, 0, 1, 1, 0, 100, 101])

    def test_a_store_that_is_neither_0_nor_1(self):
        for store in (2, 3, 100, 4294967295):
            answers = ask(*filling(0, IN_ORDER), facts(store), facts(0), facts(1))
            self.assertEqual(answers[-3:], [[-2], listing(IN_ORDER), [0]])


if __name__ == "__main__":
    unittest.main()
