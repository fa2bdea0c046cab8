"""The call fact: what it adds, its errors, and which error is returned if several apply."""

import unittest

from asking import ask, core, fact, facts, filling, gone, last_answer, listing

LARGEST = 4294967295

KNOWN_SIX = [(0, 0, 0), (0, 1, 2), (0, 19, 19), (1, 0, 0), (1, 2, 1), (1, 19, 0)]
FOUR_UNKNOWNS = [(0, 100, 101), (1, 102, 103)]
SIX_WITH_FOUR_UNKNOWNS = KNOWN_SIX[:4] + FOUR_UNKNOWNS
OTHER_STORE = [(0, 5, 150), (1, 150, 7)]


class WhatIsAdded(unittest.TestCase):
    def test_the_number_of_facts_is_returned(self):
        self.assertEqual(ask(*filling(0, KNOWN_SIX)), [[1], [2], [3], [4], [5], [6]])

    def test_each_store_counts_for_itself(self):
        calls = [fact(0, 0, 1, 2), fact(1, 0, 1, 2), fact(1, 0, 2, 1), fact(0, 0, 2, 1)]
        self.assertEqual(ask(*calls), [[1], [1], [2], [2]])

    def test_the_fact_is_in_that_store_alone(self):
        for store in (0, 1):
            answers = ask(fact(store, 1, 3, 104), facts(store), facts(1 - store))
            self.assertEqual(answers, [[1], [1, 1, 3, 104], [0]])

    def test_facts_that_differ_in_one_number_are_different(self):
        calls = [fact(0, 0, 1, 100), fact(0, 1, 1, 100), fact(0, 0, 2, 100), fact(0, 0, 1, 101), fact(0, 0, 100, 1)]
        self.assertEqual(ask(*calls), [[1], [2], [3], [4], [5]])


class Permitted(unittest.TestCase):
    def test_values_at_the_edges(self):
        for value in (0, 19, 100, 199):
            self.assertEqual(ask(fact(0, 0, value, 1), facts(0)), [[1], [1, 0, value, 1]])
            self.assertEqual(ask(fact(0, 0, 1, value), facts(0)), [[1], [1, 0, 1, value]])

    def test_values_beyond_the_edges(self):
        for value in (20, 99, 200, LARGEST):
            self.assertEqual(ask(fact(0, 0, value, 1), facts(0)), [[-1], [0]])
            self.assertEqual(ask(fact(0, 0, 1, value), facts(0)), [[-1], [0]])
            self.assertEqual(ask(fact(0, 0, value, value), facts(0)), [[-1], [0]])

    def test_every_value_up_to_beyond_the_last(self):
        for value in range(300):
            expected = [1] if value < 20 or value in range(100, 200) else [-1]
            self.assertEqual(last_answer(fact(1, 1, value, 3)), expected)
            self.assertEqual(last_answer(fact(1, 1, 3, value)), expected)

    def test_tables(self):
        for table in (0, 1):
            self.assertEqual(ask(fact(0, table, 4, 5), facts(0)), [[1], [1, table, 4, 5]])
        for table in (2, 3, 100, LARGEST):
            self.assertEqual(ask(fact(0, table, 4, 5), facts(0)), [[-1], [0]])

    def test_stores(self):
        for store in (0, 1):
            self.assertEqual(last_answer(fact(store, 0, 4, 5)), [1])
        for store in (2, 3, 100, LARGEST):
            self.assertEqual(ask(fact(store, 0, 4, 5), facts(0), facts(1)), [[-2], [0], [0]])

    def test_all_arguments_as_large_as_can_be(self):
        self.assertEqual(last_answer(fact(LARGEST, LARGEST, LARGEST, LARGEST)), [-2])
        self.assertEqual(last_answer(fact(1, LARGEST, LARGEST, LARGEST)), [-1])


class Contained(unittest.TestCase):
    def test_a_fact_that_the_store_contains(self):
        for one in [(0, 1, 2), (1, 100, 100), (0, 199, 19)]:
            self.assertEqual(ask(fact(0, *one), fact(0, *one), facts(0)), [[1], [-4], listing([one])])

    def test_a_fact_that_only_the_other_store_contains(self):
        self.assertEqual(ask(fact(0, 0, 1, 2), fact(1, 0, 1, 2)), [[1], [1]])

    def test_a_fact_that_was_removed_is_taken_again(self):
        self.assertEqual(ask(fact(0, 0, 1, 2), gone(0, 0, 1, 2), fact(0, 0, 1, 2)), [[1], [0], [1]])


class TooMany(unittest.TestCase):
    def test_a_seventh_fact(self):
        answers = ask(*filling(0, KNOWN_SIX), fact(0, 1, 5, 5), facts(0))
        self.assertEqual(answers[-3:], [[6], [-7], listing(KNOWN_SIX)])

    def test_a_seventh_fact_in_the_other_store_is_its_first(self):
        self.assertEqual(last_answer(*filling(0, KNOWN_SIX), fact(1, 1, 5, 5)), [1])

    def test_after_a_fact_is_removed_there_is_room_again(self):
        answers = ask(*filling(1, KNOWN_SIX), gone(1, 0, 1, 2), fact(1, 1, 5, 5), fact(1, 1, 5, 6))
        self.assertEqual(answers[-3:], [[5], [6], [-7]])

    def test_a_fourth_unknown_value_is_taken(self):
        self.assertEqual(ask(*filling(0, FOUR_UNKNOWNS)), [[1], [2]])

    def test_a_fifth_unknown_value(self):
        for one in [(0, 104, 1), (0, 1, 104), (1, 104, 104), (0, 100, 104), (1, 104, 103)]:
            answers = ask(*filling(0, FOUR_UNKNOWNS), fact(0, *one), facts(0))
            self.assertEqual(answers[2:], [[-7], listing(FOUR_UNKNOWNS)])

    def test_two_new_unknown_values_behind_three(self):
        three = [(0, 100, 101), (0, 102, 1)]
        answers = ask(*filling(0, three), fact(0, 0, 103, 104), facts(0), fact(0, 0, 103, 103))
        self.assertEqual(answers[2:], [[-7], listing(three), [3]])

    def test_two_new_unknown_values_behind_two_and_behind_four(self):
        self.assertEqual(last_answer(fact(0, 0, 100, 101), fact(0, 0, 102, 103)), [2])
        self.assertEqual(last_answer(*filling(0, FOUR_UNKNOWNS), fact(0, 0, 104, 105)), [-7])

    def test_facts_with_unknown_values_that_are_there_are_taken(self):
        more = [(0, 103, 100), (1, 101, 101), (1, 102, 4), (0, 5, 103)]
        self.assertEqual(ask(*filling(0, FOUR_UNKNOWNS + more))[2:], [[3], [4], [5], [6]])

    def test_facts_without_unknown_values_are_taken_behind_four(self):
        self.assertEqual(last_answer(*filling(0, FOUR_UNKNOWNS), fact(0, 0, 1, 19)), [3])

    def test_unknown_values_of_the_other_store_do_not_count(self):
        answers = ask(*filling(0, FOUR_UNKNOWNS), fact(1, 0, 104, 105), fact(1, 0, 106, 107), fact(1, 0, 108, 1))
        self.assertEqual(answers[2:], [[1], [2], [-7]])

    def test_known_values_do_not_count_as_unknown(self):
        calls = filling(0, [(0, 1, 2), (0, 3, 4), (0, 5, 6)]) + filling(0, FOUR_UNKNOWNS)
        self.assertEqual(last_answer(*calls), [5])


class WhichError(unittest.TestCase):
    def test_store_ahead_of_table_and_values(self):
        for one in [(2, 4, 5), (0, 20, 5), (0, 5, 99), (2, 200, LARGEST)]:
            self.assertEqual(last_answer(fact(2, *one)), [-2])

    def test_store_even_if_both_stores_contain_the_fact_or_are_full(self):
        calls = filling(0, KNOWN_SIX) + filling(1, KNOWN_SIX)
        self.assertEqual(last_answer(*calls, fact(2, *KNOWN_SIX[0])), [-2])
        self.assertEqual(last_answer(*calls, fact(2, 1, 5, 5)), [-2])

    def test_table_and_values_ahead_of_a_full_store(self):
        for one in [(2, 4, 5), (0, 20, 5), (0, 5, 20), (1, 5, 99), (1, 200, 5)]:
            self.assertEqual(last_answer(*filling(0, KNOWN_SIX), fact(0, *one)), [-1])

    def test_table_and_values_ahead_of_a_fifth_unknown_value(self):
        for one in [(2, 104, 5), (2, 104, 105), (0, 104, 20), (0, 99, 104), (1, 200, 5), (1, 200, 104)]:
            self.assertEqual(last_answer(*filling(0, FOUR_UNKNOWNS), fact(0, *one)), [-1])

    def test_contained_ahead_of_a_full_store(self):
        for one in KNOWN_SIX:
            self.assertEqual(last_answer(*filling(0, KNOWN_SIX), fact(0, *one)), [-4])

    def test_contained_with_four_unknown_values(self):
        for one in SIX_WITH_FOUR_UNKNOWNS:
            self.assertEqual(last_answer(*filling(1, SIX_WITH_FOUR_UNKNOWNS), fact(1, *one)), [-4])

    def test_a_seventh_fact_with_a_fifth_unknown_value(self):
        self.assertEqual(last_answer(*filling(0, SIX_WITH_FOUR_UNKNOWNS), fact(0, 0, 104, 105)), [-7])


class ErrorsChangeNothing(unittest.TestCase):
    def test_both_stores_stay_as_they_were(self):
        held = sorted(SIX_WITH_FOUR_UNKNOWNS)
        before = filling(0, SIX_WITH_FOUR_UNKNOWNS) + filling(1, OTHER_STORE)
        refused = [
            (fact(2, 0, 1, 1), -2), (fact(LARGEST, 0, 1, 1), -2), (fact(0, 2, 1, 1), -1), (fact(0, 0, 20, 1), -1),
            (fact(1, 0, 1, 99), -1), (fact(1, 1, 200, 150), -1), (fact(0, *held[0]), -4), (fact(1, 0, 5, 150), -4),
            (fact(0, 0, 7, 7), -7), (fact(0, 0, 104, 7), -7),
        ]
        for call, error in refused:
            answers = ask(*before, call, facts(0), facts(1), core(1))
            self.assertEqual(answers[-4:], [[error], listing(held), listing(OTHER_STORE), listing(OTHER_STORE)])

    def test_refused_unknown_values_do_not_count_later(self):
        calls = filling(0, [(0, 100, 101), (0, 102, 7), (0, 103, 104), (0, 105, 20), (0, 106, 7)])
        self.assertEqual(ask(*calls), [[1], [2], [-7], [-1], [3]])


if __name__ == "__main__":
    unittest.main()
