"""The document's example, number by number, and the form of the two lists."""

import unittest

from slicepool.board import answers

EXAMPLE = [
    ([0, 0, 2, 7, 1, 5], [1, 0]),
    ([10, 0], [1, 0]),
    ([10, 0], [1, 0]),
    ([10, 0], [4, 1, 0, 0, 0]),
    ([1, 1], [1, 0]),
    ([1, 2], [1, 0]),
    ([10, 1], [7, 1, 1, 0, 0, 0, 7, 5]),
    ([10, 2], [1, 0]),
    ([10, 2], [7, 1, 1, 0, 0, 1, 7, 5]),
    ([3, 1, 0, 0], [1, 0]),
    ([10, 1], [3, 1, 3, 0]),
    ([3, 2, 0, 1], [1, 0]),
    ([10, 2], [1, 0]),
    ([5, 3, 0], [1, 0]),
    ([10, 3], [5, 1, 5, 1, 2, 2]),
    ([10, 2], [3, 1, 3, 0]),
    ([6, 0, 0], [1, 0]),
    ([10, 0], [3, 1, 6, 0]),
]


class ExampleTest(unittest.TestCase):
    def test_whole(self):
        calls = [number for call, told in EXAMPLE for number in call]
        self.assertEqual(answers(calls), [number for call, told in EXAMPLE for number in told])

    def test_each_beginning_of_it(self):
        for length in range(1, len(EXAMPLE) + 1):
            rows = EXAMPLE[:length]
            calls = [number for call, told in rows for number in call]
            self.assertEqual(answers(calls), [number for call, told in rows for number in told])

    def test_one_call_alone(self):
        self.assertEqual(answers([1, 0]), [3, 1, 1, -1])
        self.assertEqual(answers([1, 4]), [1, -1])
        self.assertEqual(answers([10, 0]), [1, -9])

    def test_four_hundred_calls(self):
        self.assertEqual(answers([1, 0] * 400), [3, 1, 1, -1] * 400)

    def test_the_longest_line(self):
        call = [0, 0, 33, 2 ** 53 - 1, 4] + [2 ** 53 - 1] * 4
        self.assertEqual(len(call), 9)
        self.assertEqual(answers(call * 400), [3, 1, 0, -4] * 400)


if __name__ == "__main__":
    unittest.main()
