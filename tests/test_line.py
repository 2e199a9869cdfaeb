"""The interface: callstrings.tables.answers."""

import unittest

from callstrings.tables import answers
from tests.helper import EXAMPLE, LARGEST, OVERFULL, encode, run

LINE = [
    ("program", EXAMPLE), ("facts",), ("values", 2), ("at", 2, [4]), ("at", 2, [7]), ("values", 4), ("arrows",),
    ("bodies", 1), ("bodies", 9), ("strings", 0), ("values", 4), ("size",),
]


class Example(unittest.TestCase):
    def test_number_by_number(self):
        self.assertEqual(answers(encode(*LINE)), [
            1, 11,
            2, 18, 2,
            5, 2, 0, 0, 1, 9,
            4, 1, 0, 0, 0,
            4, 1, 1, 9, 0,
            3, 1, 0, 0,
            5, 2, 4, 1, 7, 1,
            5, 2, 1, 4, 1, 7,
            1, 0,
            1, 1,
            5, 2, 0, 0, 1, 9,
            4, 11, 0, 2, 2,
        ])

    def test_the_numbers_of_the_calls(self):
        text = [40, 110, 101, 119, 32, 49, 41]
        self.assertEqual(answers([0, 7] + text + [1, 2, 2, 3, 0, 4, 1, 0, 5, 6, 0, 12]),
                         [1, 2, 1, 1, 2, 3, 0, 3, 1, 3, 0, 4, 1, 0, 0, 0, 1, 0, 1, -5, 4, 2, 2, 0, 0])


class Lines(unittest.TestCase):
    def test_what_is_handed_in_stays(self):
        given = encode(*LINE)
        kept = list(given)
        answers(given)
        self.assertEqual(given, kept)

    def test_a_second_time_is_like_the_first(self):
        given = encode(*LINE)
        first = answers(given)
        self.assertEqual(answers(given), first)
        answers(encode(("program", OVERFULL), ("strings", 2), ("facts",)))
        self.assertEqual(answers(given), first)
        first.clear()
        self.assertEqual(len(answers(given)), 52)

    def test_an_object_is_new_at_each_lines_beginning(self):
        run(("program", EXAMPLE), ("strings", 2))
        self.assertEqual(run(("size",), ("facts",), ("strings", 1)), [[1, 1, 0, 0], [1, 0], [1]])

    def test_kinds(self):
        told = answers(encode(*LINE))
        self.assertIs(type(told), list)
        self.assertEqual({type(one) for one in told}, {int})

    def test_a_refusal_is_its_number_alone(self):
        told = answers(encode(("program", ""), ("strings", -LARGEST), ("values", LARGEST), ("at", 0, [0, 0, 0, 0]),
                              ("bodies", 0)))
        self.assertEqual(told, [1, -1, 1, -2, 1, -3, 1, -4, 1, -5])

    def test_refused_calls_leave_everything_as_it_was(self):
        refused = [("program", "()"), ("strings", 3), ("values", -1), ("at", 11, []), ("at", 0, [0]), ("bodies", 0)]
        told = run(LINE[0], *refused, *LINE[1:])
        self.assertEqual(told[:1] + told[1 + len(refused):], run(*LINE))

    def test_the_longest_lines(self):
        # 8 texts of 2000 bytes and the other calls: near to 17000 numbers.
        long = [("program", "(" * 2000), ("program", "(new " * 400)] * 4
        told = run(LINE[0], *long, *LINE[1:])
        self.assertEqual(told[1:9], [[-1]] * 8)
        self.assertEqual(told[:1] + told[9:], run(*LINE))

    def test_twenty_calls_on_a_table_that_is_too_large(self):
        told = run(("program", OVERFULL), ("strings", 2), *[("facts",), ("values", 0), ("arrows",)] * 6)
        self.assertEqual(told[2:], [[-7]] * 18)


if __name__ == "__main__":
    unittest.main()
