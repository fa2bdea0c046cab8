"""begins, and what answers says of a list of calls as a whole."""

import ast
import contextlib
import io
import pathlib
import unittest

import factcores
from asking import ask, begins, core, fact, facts, filling, gone, joined, listing
from factcores.stores import answers

SOME = [(0, 1, 100), (0, 1, 101), (1, 100, 7)]
PACKAGE = pathlib.Path(factcores.__file__).parent


class Begins(unittest.TestCase):
    def test_it_answers_0(self):
        self.assertEqual(answers([0]), [1, 0])
        self.assertEqual(answers([0, 0, 0]), [1, 0, 1, 0, 1, 0])

    def test_in_the_middle_it_empties_both_stores(self):
        calls = filling(0, SOME) + filling(1, SOME) + [begins(), facts(0), facts(1), core(0), core(1)]
        self.assertEqual(ask(*calls)[6:], [[0], [0], [0], [0], [0]])

    def test_behind_it_facts_are_taken_as_into_new_stores(self):
        full = [(0, 100, 101), (0, 102, 103), (0, 1, 1), (0, 1, 2), (0, 1, 3), (0, 1, 4)]
        calls = filling(0, full) + [begins(), gone(0, 0, 1, 1), fact(0, 0, 1, 1), fact(0, 0, 104, 105), facts(0)]
        self.assertEqual(ask(*calls)[6:], [[0], [-3], [1], [2], listing([(0, 1, 1), (0, 104, 105)])])


class OneListOfCalls(unittest.TestCase):
    def test_without_begins_there_are_two_empty_stores(self):
        self.assertEqual(answers([3, 0, 3, 1]), [1, 0, 1, 0])
        self.assertEqual(answers([4, 1]), [1, 0])

    def test_each_answer_stands_behind_its_length(self):
        calls = [1, 0, 0, 1, 100, 3, 0, 3, 9, 1, 0, 0, 1, 100, 4, 0]
        self.assertEqual(answers(calls), [1, 1, 4, 1, 0, 1, 100, 1, -2, 1, -4, 4, 1, 0, 1, 100])

    def test_a_second_use_starts_anew(self):
        calls = joined(filling(0, SOME) + filling(1, SOME[:1]) + [facts(0), facts(1)])
        first = answers(calls)
        self.assertEqual(answers([3, 0, 3, 1, 4, 0, 4, 1]), [1, 0, 1, 0, 1, 0, 1, 0])
        self.assertEqual(answers(calls), first)

    def test_the_list_handed_in_stays_as_it_was(self):
        calls = joined(filling(0, SOME) + [core(0), fact(0, 2, 1, 1), gone(0, *SOME[0]), facts(0), begins(), facts(0)])
        handed_in = list(calls)
        answers(handed_in)
        self.assertEqual(handed_in, calls)

    def test_the_answered_list_is_another_one_each_time(self):
        first = answers([3, 0])
        first.append(5)
        self.assertEqual(answers([3, 0]), [1, 0])

    def test_sixty_calls_with_three_hundred_numbers(self):
        calls = [fact(store, table, 1, 2) for store in (0, 1) for table in (0, 1)] + [fact(0, 0, 1, 2)] * 56
        self.assertEqual(len(joined(calls)), 300)
        self.assertEqual(ask(*calls), [[1], [2], [1], [2]] + [[-4]] * 56)

    def test_whole_numbers_alone_are_answered(self):
        answered = answers(joined([begins()] + filling(0, SOME) + [facts(0), core(0), gone(0, 0, 1, 100), facts(2)]))
        self.assertIs(list, answered.__class__)
        self.assertEqual({int}, {number.__class__ for number in answered})


class NothingElse(unittest.TestCase):
    def test_nothing_is_printed(self):
        with contextlib.redirect_stdout(io.StringIO()) as out, contextlib.redirect_stderr(io.StringIO()) as err:
            answers(joined(filling(0, SOME) + [core(0), facts(0), facts(2), gone(0, 1, 1, 1)]))
        self.assertEqual(out.getvalue() + err.getvalue(), "")

    def test_the_package_imports_itself_alone_and_neither_reads_nor_prints(self):
        for path in PACKAGE.rglob("*.py"):
            for node in ast.walk(ast.parse(path.read_text())):
                self.assertNotIsInstance(node, ast.Import)
                if isinstance(node, ast.ImportFrom):
                    self.assertEqual((node.level, node.module.split(".")[0]), (0, "factcores"))
                if isinstance(node, ast.Name):
                    self.assertNotIn(node.id, ("open", "input", "print", "eval", "exec"))


if __name__ == "__main__":
    unittest.main()
