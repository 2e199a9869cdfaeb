"""Promise 13: size."""

import unittest

from tests.helper import EXAMPLE, FULL, OVERFULL, ask, run


class Size(unittest.TestCase):
    def test_at_the_beginning(self):
        self.assertEqual(run(("size",)), [[1, 1, 0, 0]])

    def test_the_example(self):
        for most in (0, 1, 2):
            self.assertEqual(ask(EXAMPLE, most, ("size",)), [[11, most, 2, 2]])

    def test_calls_and_funs_that_are_never_come_to_count(self):
        self.assertEqual(ask("(fun x (x (fun y (1 2))))", 1, ("size",)), [[7, 1, 2, 2]])
        self.assertEqual(ask("((1 2) (3 in))", 1, ("size",)), [[7, 1, 3, 0]])

    def test_forms_that_are_no_calls(self):
        self.assertEqual(ask("(let a (new 1) (set a (add (get a) (fst (snd (pair 1 2))))))", 0, ("size",)),
                         [[13, 0, 0, 0]])

    def test_behind_a_refused_program(self):
        told = run(("program", "(new"), ("size",), ("program", EXAMPLE), ("program", "(x x)"), ("size",))
        self.assertEqual(told, [[-1], [1, 1, 0, 0], [11], [-1], [11, 1, 2, 2]])

    def test_behind_refused_strings(self):
        self.assertEqual(run(("strings", 2), ("strings", 3), ("size",)), [[1], [-2], [1, 2, 0, 0]])

    def test_a_table_that_is_too_large_counts_for_nothing(self):
        self.assertEqual(ask(OVERFULL, 2, ("size",)), [[24, 2, 5, 1]])
        self.assertEqual(ask(FULL, 2, ("size",)), [[23, 2, 5, 1]])


if __name__ == "__main__":
    unittest.main()
