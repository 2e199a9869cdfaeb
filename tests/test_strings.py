"""Promise 2: strings."""

import unittest

from tests.helper import EXAMPLE, LARGEST, run


class Strings(unittest.TestCase):
    def test_it_tells_the_one_before(self):
        told = run(("strings", 2), ("strings", 2), ("strings", 0), ("strings", 1), ("strings", 0), ("size",))
        self.assertEqual(told, [[1], [2], [2], [0], [1], [1, 0, 0, 0]])

    def test_out_of_range(self):
        for k in [-1, 3, 4, -2, LARGEST, -LARGEST, LARGEST - 1, 10]:
            told = run(("strings", 2), ("strings", k), ("size",), ("strings", 0), ("strings", k), ("strings", 1))
            self.assertEqual(told, [[1], [-2], [1, 2, 0, 0], [2], [-2], [0]])

    def test_the_tables_follow(self):
        told = run(("program", EXAMPLE), ("strings", 0), ("values", 4), ("strings", 1), ("values", 4),
                   ("strings", 0), ("values", 4))
        self.assertEqual(told[2::2], [[2, 0, 0, 1, 9], [1, 0, 0], [2, 0, 0, 1, 9]])


if __name__ == "__main__":
    unittest.main()
