"""The call gone: what it removes, and its errors."""

import unittest

from asking import ask, fact, facts, filling, gone, last_answer, listing

LARGEST = 4294967295

FIRST_STORE = [(0, 1, 2), (0, 100, 101), (1, 1, 2)]
SECOND_STORE = [(0, 100, 101), (1, 102, 3)]
BOTH = filling(0, FIRST_STORE) + filling(1, SECOND_STORE)


class WhatIsRemoved(unittest.TestCase):
    def test_a_fact_that_is_there(self):
        for one in FIRST_STORE:
            rest = [other for other in FIRST_STORE if other != one]
            answers = ask(*BOTH, gone(0, *one), facts(0), facts(1))
            self.assertEqual(answers[-3:], [[2], listing(rest), listing(SECOND_STORE)])

    def test_the_other_store(self):
        answers = ask(*BOTH, gone(1, 0, 100, 101), facts(0), facts(1))
        self.assertEqual(answers[-3:], [[1], listing(FIRST_STORE), listing(SECOND_STORE[1:])])

    def test_down_to_the_empty_store(self):
        answers = ask(*BOTH, *[gone(0, *one) for one in FIRST_STORE], facts(0), facts(1))
        self.assertEqual(answers[-5:], [[2], [1], [0], [0], listing(SECOND_STORE)])

    def test_unknown_values_of_a_removed_fact_no_longer_count(self):
        calls = filling(0, [(0, 100, 101), (0, 102, 103)])
        answers = ask(*calls, fact(0, 0, 104, 1), gone(0, 0, 100, 101), fact(0, 0, 104, 105), fact(0, 0, 100, 1))
        self.assertEqual(answers[2:], [[-7], [1], [2], [-7]])

    def test_unknown_values_that_another_fact_has_still_count(self):
        calls = filling(0, [(0, 100, 101), (0, 102, 103), (1, 101, 1)])
        answers = ask(*calls, gone(0, 0, 100, 101), fact(0, 0, 104, 105), fact(0, 0, 104, 1), fact(0, 0, 105, 1))
        self.assertEqual(answers[3:], [[2], [-7], [3], [-7]])


class NotContained(unittest.TestCase):
    def refused(self, *arguments):
        answers = ask(*BOTH, gone(*arguments), facts(0), facts(1))
        self.assertEqual(answers[-2:], [listing(FIRST_STORE), listing(SECOND_STORE)])
        return answers[-3]

    def test_an_empty_store(self):
        self.assertEqual(ask(gone(0, 0, 1, 2), gone(1, 0, 1, 2)), [[-3], [-3]])

    def test_a_fact_that_is_not_there(self):
        for one in [(1, 100, 101), (0, 2, 1), (0, 101, 100), (0, 1, 3), (0, 3, 2), (0, 102, 103)]:
            self.assertEqual(self.refused(0, *one), [-3])

    def test_a_fact_that_only_the_other_store_contains(self):
        self.assertEqual(self.refused(0, 1, 102, 3), [-3])
        self.assertEqual(self.refused(1, 0, 1, 2), [-3])

    def test_a_fact_that_was_removed_already(self):
        self.assertEqual(ask(fact(0, 0, 1, 2), gone(0, 0, 1, 2), gone(0, 0, 1, 2)), [[1], [0], [-3]])

    def test_a_table_or_a_value_that_no_store_contains(self):
        for one in [(2, 1, 2), (LARGEST, 1, 2), (0, 20, 2), (0, 1, 99), (0, 200, 101), (0, 100, LARGEST)]:
            self.assertEqual(self.refused(0, *one), [-3])
            self.assertEqual(self.refused(1, *one), [-3])

    def test_stores(self):
        for store in (2, 3, 100, LARGEST):
            self.assertEqual(self.refused(store, 0, 100, 101), [-2])

    def test_store_ahead_of_a_fact_that_is_not_there(self):
        self.assertEqual(self.refused(2, 0, 9, 9), [-2])
        self.assertEqual(self.refused(2, 2, 20, 200), [-2])
        self.assertEqual(last_answer(gone(LARGEST, LARGEST, LARGEST, LARGEST)), [-2])


if __name__ == "__main__":
    unittest.main()
