"""begins, and what answers says of a list of calls as a whole."""

import ast
import contextlib
import io
import pathlib
import time
import unittest

import by_words
import factcores
from asking import (alike, ask, begins, core, fact, facts, filling, gone, joined, keep, listing, mapping, same, spare,
                    telling)
from factcores.stores import answers

SOME = [(0, 1, 100), (0, 1, 101), (1, 100, 7)]

# All ten calls, and what is answered to each.
ALL_CALLS = [
    (fact(0, 0, 1, 140), [1]),
    (fact(0, 0, 1, 130), [2]),
    (fact(1, 0, 1, 120), [1]),
    (spare(0), [2, 0, 1, 130, 0, 1, 140]),
    (same(), [1]),
    (alike(), [0]),
    (mapping(0), [1, 130, 120, 140, 120]),
    (keep(0), [1, 0, 1, 100]),
    (alike(), [1, 100, 120]),
    (fact(0, 0, 1, 3), [2]),
    (facts(0), [2, 0, 1, 3, 0, 1, 100]),
    (core(0), [1, 0, 1, 3]),
    (gone(0, 0, 1, 100), [1]),
    (facts(1), [1, 0, 1, 120]),
]

# Stores of six facts and four unknown values over which a mapping is searched for long.
LONG_SEARCHES = [
    ([(0, 1, 123), (0, 2, 2), (0, 124, 128), (0, 164, 123), (1, 124, 2), (1, 128, 128)],
     [(0, 0, 3), (0, 2, 7), (0, 131, 195), (0, 157, 3), (0, 157, 140), (0, 195, 157)]),
    ([(0, 149, 161), (0, 161, 0), (1, 0, 0), (1, 0, 149), (1, 146, 161), (1, 165, 0)],
     [(0, 1, 0), (0, 7, 2), (0, 118, 132), (0, 132, 159), (0, 159, 6), (0, 159, 106)]),
    ([(0, 100, 101), (0, 101, 102), (0, 102, 100), (0, 102, 103), (0, 103, 100), (0, 101, 103)],
     [(0, 100, 101), (0, 101, 102), (0, 102, 103), (0, 103, 100), (0, 1, 2), (0, 2, 1)]),
]
PACKAGE = pathlib.Path(factcores.__file__).parent


class Begins(unittest.TestCase):
    def test_it_answers_0(self):
        self.assertEqual(answers([0]), [1, 0])
        self.assertEqual(answers([0, 0, 0]), [1, 0, 1, 0, 1, 0])

    def test_in_the_middle_it_empties_both_stores(self):
        calls = filling(0, SOME) + filling(1, SOME) + [begins(), facts(0), facts(1), core(0), core(1)]
        self.assertEqual(ask(*calls)[6:], [[0], [0], [0], [0], [0]])

    def test_behind_it_facts_are_taken_as_into_new_stores(self):
        full = [(0, 100, 101), (0, 102, 103), (0, 1, 1), (0, 1, 2), (0, 1, 3), (0, 1, 4)]
        calls = filling(0, full) + [begins(), gone(0, 0, 1, 1), fact(0, 0, 1, 1), fact(0, 0, 104, 105), facts(0)]
        self.assertEqual(ask(*calls)[6:], [[0], [-3], [1], [2], listing([(0, 1, 1), (0, 104, 105)])])


class OneListOfCalls(unittest.TestCase):
    def test_without_begins_there_are_two_empty_stores(self):
        self.assertEqual(answers([3, 0, 3, 1]), [1, 0, 1, 0])
        self.assertEqual(answers([4, 1]), [1, 0])

    def test_each_answer_stands_behind_its_length(self):
        calls = [1, 0, 0, 1, 100, 3, 0, 3, 9, 1, 0, 0, 1, 100, 4, 0]
        self.assertEqual(answers(calls), [1, 1, 4, 1, 0, 1, 100, 1, -2, 1, -4, 4, 1, 0, 1, 100])

    def test_a_second_use_starts_anew(self):
        calls = joined(filling(0, SOME) + filling(1, SOME[:1]) + [facts(0), facts(1)])
        first = answers(calls)
        self.assertEqual(answers([3, 0, 3, 1, 4, 0, 4, 1]), [1, 0, 1, 0, 1, 0, 1, 0])
        self.assertEqual(answers(calls), first)

    def test_the_list_handed_in_stays_as_it_was(self):
        calls = joined(filling(0, SOME) + [core(0), fact(0, 2, 1, 1), gone(0, *SOME[0]), facts(0), begins(), facts(0)])
        handed_in = list(calls)
        answers(handed_in)
        self.assertEqual(handed_in, calls)

    def test_the_answered_list_is_another_one_each_time(self):
        first = answers([3, 0])
        first.append(5)
        self.assertEqual(answers([3, 0]), [1, 0])

    def test_all_ten_calls_with_begins_in_the_middle(self):
        calls = [call for call, answer in ALL_CALLS]
        expected = [answer for call, answer in ALL_CALLS]
        less = [begins(), fact(1, 0, 5, 150), facts(0), facts(1), gone(1, 0, 1, 120), mapping(0), keep(1), alike()]
        answered = [[0], [1], [0], [1, 0, 5, 150], [-3], [1], [1, 0, 5, 100], [0]]
        self.assertEqual(ask(*calls), expected)
        self.assertEqual({call[0] for call in [begins()] + calls}, set(range(10)))
        self.assertEqual(ask(begins(), *calls, *less), [[0]] + expected + answered)
        self.assertEqual(ask(*less, begins(), *calls), answered + [[0]] + expected)

    def test_sixty_calls_of_all_ten(self):
        calls = [call for call, answer in ALL_CALLS]
        expected = [answer for call, answer in ALL_CALLS]
        more = [facts(1), begins(), facts(0), facts(2), gone(0, 0, 1, 1), fact(1, 1, 1, 1), gone(1, 1, 1, 1)]
        answered = [[1, 0, 1, 120], [0], [0], [-2], [-3], [1], [0]]
        rest = 60 - len(calls) - len(more) - 3
        calls = calls + more + [facts(0)] * rest + [core(0), spare(1), keep(0)]
        self.assertEqual(len(calls), 60)
        self.assertEqual(ask(*calls), expected + answered + [[0]] * (rest + 3))

    def test_sixty_calls_with_three_hundred_numbers(self):
        calls = [fact(store, table, 1, 2) for store in (0, 1) for table in (0, 1)] + [fact(0, 0, 1, 2)] * 56
        self.assertEqual(len(joined(calls)), 300)
        self.assertEqual(ask(*calls), [[1], [2], [1], [2]] + [[-4]] * 56)

    def test_whole_numbers_alone_are_answered(self):
        calls = [begins()] + filling(0, SOME) + [facts(0), core(0), gone(0, 0, 1, 100), facts(2)]
        for listed in (calls, [call for call, answer in ALL_CALLS], [same(), alike(), mapping(1), keep(0)]):
            answered = answers(joined(listed))
            self.assertIs(list, answered.__class__)
            self.assertEqual({int}, {number.__class__ for number in answered})

    def test_a_second_use_of_all_calls_starts_anew(self):
        calls = joined([call for call, answer in ALL_CALLS])
        handed_in = list(calls)
        first = answers(handed_in)
        self.assertEqual(answers(handed_in), first)
        self.assertEqual(handed_in, calls)
        self.assertEqual(answers([7, 8, 6, 0, 9, 1, 5, 0]), [1, 1, 1, 1, 1, 1, 1, 0, 1, 0])


class LongSearches(unittest.TestCase):
    def test_ten_calls_over_large_stores(self):
        for first, second in LONG_SEARCHES:
            self.check(first, second)

    def check(self, first, second):
        for held in (first, second):
            self.assertEqual((len(held), len(by_words.unknowns_of(held))), (6, 4))
        calls = [core(0), core(1), spare(0), spare(1), mapping(0), mapping(1), same(), alike(), keep(0), keep(1)]
        expected = [listing(sorted(found(held))) for found in (by_words.core, by_words.redundant)
                    for held in (first, second)]
        into_second, into_first = by_words.first_mapping(first, second), by_words.first_mapping(second, first)
        expected += [telling(into_second), telling(into_first), [int(None not in (into_second, into_first))]]
        expected.append(telling(by_words.first_isomorphism(first, second)))
        expected += [listing(sorted(by_words.kept(held))) for held in (first, second)]
        start = time.monotonic()
        answered = ask(*filling(0, first), *filling(1, second), *calls)[-10:]
        self.assertLess(time.monotonic() - start, 5)
        self.assertEqual(answered, expected)


class PointSeven(unittest.TestCase):
    def test_calls_that_are_refused_change_nothing(self):
        full = [(0, 1, 100), (0, 1, 101), (0, 1, 102), (0, 1, 103), (1, 4, 4), (1, 5, 5)]
        before = filling(0, full) + filling(1, SOME)
        refused = [(call(store), -2) for call in (facts, core, spare, mapping, keep) for store in (2, 4294967295)]
        refused += [(fact(2, 0, 1, 1), -2), (fact(0, 2, 1, 1), -1), (fact(0, 0, 1, 20), -1), (fact(1, 0, 5, 200), -1),
                    (fact(0, 0, 1, 100), -4), (fact(0, 0, 1, 1), -7), (fact(0, 0, 104, 1), -7),
                    (gone(2, 0, 1, 100), -2), (gone(1, 0, 1, 102), -3)]
        after = [facts(0), facts(1), core(0), core(1), spare(0), mapping(0), mapping(1), same(), alike()]
        expected = ask(*before, *after)[-len(after):]
        self.assertEqual(expected[:2], [listing(full), listing(SOME)])
        for call, error in refused:
            self.assertEqual(ask(*before, call, *after)[-1 - len(after):], [[error]] + expected)


class NothingElse(unittest.TestCase):
    def test_nothing_is_printed(self):
        with contextlib.redirect_stdout(io.StringIO()) as out, contextlib.redirect_stderr(io.StringIO()) as err:
            answers(joined(filling(0, SOME) + [core(0), facts(0), facts(2), gone(0, 1, 1, 1)]))
            answers(joined([call for call, answer in ALL_CALLS]))
        self.assertEqual(out.getvalue() + err.getvalue(), "")

    def test_the_package_imports_itself_alone_and_neither_reads_nor_prints(self):
        for path in PACKAGE.rglob("*.py"):
            for node in ast.walk(ast.parse(path.read_text())):
                self.assertNotIsInstance(node, ast.Import)
                if isinstance(node, ast.ImportFrom):
                    self.assertEqual((node.level, node.module.split(".")[0]), (0, "factcores"))
                if isinstance(node, ast.Name):
                    self.assertNotIn(node.id, ("open", "input", "print", "eval", "exec"))


if __name__ == "__main__":
    unittest.main()
