"""The interface: callstrings.tables.answers."""

import unittest

from callstrings.tables import answers
from tests.helper import EXAMPLE, FULL, LARGEST, OVERFULL, encode, run

LINE = [
    ("program", EXAMPLE), ("facts",), ("values", 2), ("at", 2, [4]), ("at", 2, [7]), ("values", 4), ("arrows",),
    ("bodies", 1), ("bodies", 9), ("ladder",), ("parts", 1), ("parts", 2), ("dead",), ("check", 3), ("name", 1),
    ("strings", 0), ("values", 4), ("size",),
]
# A line has at most 20 calls: what's left, for tests that put others between.
SHORT = LINE[:1] + LINE[7:]


class Example(unittest.TestCase):
    def test_number_by_number(self):
        self.assertEqual(answers(encode(*LINE)), [
            1, 11,
            2, 18, 2,
            5, 2, 0, 0, 1, 9,
            4, 1, 0, 0, 0,
            4, 1, 1, 9, 0,
            3, 1, 0, 0,
            5, 2, 4, 1, 7, 1,
            5, 2, 1, 4, 1, 7,
            1, 0,
            4, 2, 2, 2, 2,
            3, 1, 0, 4,
            1, 0,
            2, 1, 10,
            1, 1,
            5, 2, 0, 0, 1, 9,
            1, 1,
            5, 2, 0, 0, 1, 9,
            4, 11, 0, 2, 2,
        ])

    def test_the_numbers_of_the_calls(self):
        text = [40, 110, 101, 119, 32, 49, 41]
        self.assertEqual(answers([0, 7] + text + [1, 2, 2, 3, 0, 4, 1, 0, 5, 6, 0, 12]),
                         [1, 2, 1, 1, 2, 3, 0, 3, 1, 3, 0, 4, 1, 0, 0, 0, 1, 0, 1, -5, 4, 2, 2, 0, 0])
        self.assertEqual(answers([0, 7] + text + [7, 8, 1, 9, 10, 9, 11, 0, 12]),
                         [1, 2, 4, 0, 0, 0, 0, 1, 0, 1, 0, 1, 1, 1, -5, 4, 2, 1, 0, 0])


class Lines(unittest.TestCase):
    def test_what_is_handed_in_stays(self):
        given = encode(*LINE)
        kept = list(given)
        answers(given)
        self.assertEqual(given, kept)

    def test_a_second_time_is_like_the_first(self):
        given = encode(*LINE)
        first = answers(given)
        self.assertEqual(answers(given), first)
        answers(encode(("program", OVERFULL), ("strings", 2), ("facts",)))
        self.assertEqual(answers(given), first)
        first.clear()
        self.assertEqual(len(answers(given)), 74)

    def test_an_object_is_new_at_each_lines_beginning(self):
        run(("program", EXAMPLE), ("strings", 2))
        self.assertEqual(run(("size",), ("facts",), ("strings", 1)), [[1, 1, 0, 0], [1, 0], [1]])

    def test_kinds(self):
        told = answers(encode(*LINE))
        self.assertIs(type(told), list)
        self.assertEqual({type(one) for one in told}, {int})

    def test_a_refusal_is_its_number_alone(self):
        told = answers(encode(("program", ""), ("strings", -LARGEST), ("values", LARGEST), ("at", 0, [0, 0, 0, 0]),
                              ("bodies", 0), ("parts", 0), ("check", 10), ("name", -1), ("name", 0)))
        self.assertEqual(told, [1, -1, 1, -2, 1, -3, 1, -4, 1, -5, 1, -2, 1, -2, 1, -3, 1, -5])

    def test_refused_calls_leave_everything_as_it_was(self):
        for refused in (
            [("program", "()"), ("strings", 3), ("values", -1), ("at", 11, []), ("at", 0, [0]), ("bodies", 0)],
            [("parts", 0), ("parts", 3), ("check", -1), ("check", 10), ("name", 11), ("name", 3)],
        ):
            told = run(SHORT[0], *refused, *SHORT[1:])
            self.assertTrue(all(len(one) == 1 and one[0] < 0 for one in told[1:7]))
            self.assertEqual(told[:1] + told[7:], run(*SHORT))

    def test_calls_that_are_too_large_leave_everything_as_it_was(self):
        refused = [("ladder",), ("parts", 2), ("strings", 2), ("dead",), ("check", 0), ("name", 4), ("strings", 1)]
        told = run(("program", OVERFULL), *refused, *SHORT)
        self.assertEqual(told[1:8], [[-7], [-7], [1], [-7], [-7], [-7], [2]])
        self.assertEqual(told[8:], run(*SHORT))

    def test_the_longest_lines(self):
        # 8 texts of 2000 bytes and the other calls: near to 17000 numbers.
        long = [("program", "(" * 2000), ("program", "(new " * 400)] * 4
        told = run(SHORT[0], *long, *SHORT[1:])
        self.assertEqual(told[1:9], [[-1]] * 8)
        self.assertEqual(told[:1] + told[9:], run(*SHORT))

    def test_tables_and_runs_follow_the_program(self):
        calls = [("ladder",), ("parts", 1), ("dead",), ("check", 0), ("name", 1)]
        other = "(let f (fun x (x 1)) (fun y (f y)))"
        told = run(("program", EXAMPLE), *calls, ("program", other), *calls, ("program", EXAMPLE), *calls)
        self.assertEqual(told[1:6], [[2, 2, 2, 2], [1, 0, 4], [1, 10], [1], [2, 0, 0, 1, 9]])
        self.assertEqual(told[7:12], [[1, 0, 0, 0], [0], [6, 2, 3, 4, 6, 7, 8], [1], [0]])
        self.assertEqual(told[13:], told[1:6])

    def test_twenty_calls_on_a_table_that_is_too_large(self):
        for calls in ([("facts",), ("values", 0), ("arrows",)] * 6,
                      [("ladder",), ("parts", 2), ("dead",), ("check", 0), ("name", 4), ("name", 0)] * 3):
            told = run(("program", OVERFULL), ("strings", 2), *calls)
            self.assertEqual(told[2:], [[-7]] * 18)

    def test_twenty_calls_on_a_program_that_has_large_tables(self):
        told = run(("program", FULL), ("strings", 2), *[("ladder",), ("parts", 2), ("check", 5)] * 6)
        self.assertEqual(told[2:], [[5, 5, 5, 5], [0], [1]] * 6)


if __name__ == "__main__":
    unittest.main()
