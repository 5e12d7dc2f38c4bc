"""The document's example, whole, handed in as one list of calls."""

import unittest

from manyrounds.rounds import answers


class ExampleTest(unittest.TestCase):
    def test_number_by_number(self):
        calls = [
            0, 2,
            1, 0, 6, 1, 1, 3, 1, 0, 0,
            2, 2, 10, 20,
            3, 0, 5,
            4, 0, 2,
            5, 0, 0,
            8, 0,
            9, 0,
            11, 0, 0, 26,
            12, 0, 0, 100,
            11, 0, 0, 11,
            1, 1, 5, 1, 0, 5, 0, 7,
            6,
            7,
            5, 1, 1,
            14, 0, 5,
            13,
        ]
        expected = [
            1, 2,
            1, 0,
            1, 0,
            3, 0, 29, 16,
            6, 1, 0, 3, 1, 1, 3,
            9, 0, 2, 3, 1, 0, 0, 1, 1, 3,
            1, 0,
            7, 1, 1, 1, 0, 1, 0, -3,
            2, 1, 3,
            2, 1, 53,
            1, 0,
            1, 0,
            5, 1, 1, 8, 0, 7,
            2, 0, 0,
            8, 1, 1, 0, 1, 1, 0, 0, 7,
            3, 0, 29, 16,
            5, 1, 1, 8, 0, 7,
        ]
        self.assertEqual(answers(calls), expected)


if __name__ == "__main__":
    unittest.main()
