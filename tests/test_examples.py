"""The document's examples as plain numbers."""

import unittest

from factcores.stores import answers

EXAMPLES = [
    # (call, answer)
    ([1, 0, 0, 1, 100], [1]),
    ([1, 0, 0, 1, 101], [2]),
    ([1, 0, 1, 100, 7], [3]),
    ([1, 1, 0, 1, 150], [1]),
    ([1, 1, 1, 150, 7], [2]),
    ([4, 0], [2, 0, 1, 100, 1, 100, 7]),
    ([5, 0], [1, 0, 1, 101]),
    ([7], [1]),
    ([8], [0]),
    ([6, 1], [1, 150, 100]),
    ([2, 0, 0, 1, 101], [2]),
    ([8], [1, 100, 150]),
    ([1, 0, 0, 101, 102], [3]),
    ([1, 0, 0, 102, 101], [4]),
    ([4, 0], [4, 0, 1, 100, 0, 101, 102, 0, 102, 101, 1, 100, 7]),
    ([1, 0, 0, 103, 103], [5]),
    ([4, 0], [3, 0, 1, 100, 0, 103, 103, 1, 100, 7]),
    ([7], [0]),
    ([9, 0], [3, 0, 1, 100, 0, 101, 101, 1, 100, 7]),
    ([1, 0, 0, 104, 20], [-1]),
    ([2, 1, 0, 0, 0], [-3]),
    ([3, 2], [-2]),
]


class Examples(unittest.TestCase):
    def test_the_whole_answered_list(self):
        calls = [number for call, answer in EXAMPLES for number in call]
        answered = [number for call, answer in EXAMPLES for number in [len(answer)] + answer]
        self.assertEqual(answers(calls), answered)

    def test_each_beginning_of_the_examples(self):
        for length in range(1, len(EXAMPLES) + 1):
            calls = [number for call, answer in EXAMPLES[:length] for number in call]
            answered = [number for call, answer in EXAMPLES[:length] for number in [len(answer)] + answer]
            self.assertEqual(answers(calls), answered)


if __name__ == "__main__":
    unittest.main()
