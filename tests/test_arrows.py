"""Promises 6 and 7: arrows and bodies."""

import unittest

from tests.helper import EXAMPLE, FULL, LARGEST, OVERFULL, ask, run

# Labels: 1 and 4 the funs, 5 the call in the second, 9 and 12 the calls outside.
THROUGH = "(let f (fun x x) (let g (fun y (f y)) (pair (g 1) (f 2))))"


def arrows(text, most):
    return ask(text, most, ("arrows",))[0]


def bodies(text, most, label):
    return ask(text, most, ("bodies", label))[0]


class Arrows(unittest.TestCase):
    def test_the_example(self):
        for most in (0, 1, 2):
            self.assertEqual(arrows(EXAMPLE, most), [2, 4, 1, 7, 1])

    def test_several_functions_at_one_call(self):
        for most in (0, 1, 2):
            self.assertEqual(arrows("((if in (fun a a) (fun b 2)) 1)", most), [2, 0, 3, 0, 5])
            self.assertEqual(arrows("((if in (fun a a) (if in (pair 1 2) (fun b 2))) 1)", most), [2, 0, 3, 0, 10])

    def test_one_function_from_several_calls(self):
        for most in (0, 1, 2):
            self.assertEqual(arrows(THROUGH, most), [3, 5, 1, 9, 4, 12, 1])

    def test_a_function_of_several_strings_counts_once(self):
        for most in (0, 1, 2):
            text = "(let f (fun x (fun y y)) ((if in (f 1) (f 2)) 3))"
            self.assertEqual(arrows(text, most), [3, 4, 2, 7, 1, 10, 1])

    def test_sharper_strings_have_fewer(self):
        text = "(let id (fun x x) (pair ((id (fun a 1)) 1) ((id (fun b 2)) 1)))"
        self.assertEqual(arrows(text, 0), [6, 4, 7, 4, 13, 5, 1, 10, 7, 10, 13, 11, 1])
        self.assertEqual(arrows(text, 1), [4, 4, 7, 5, 1, 10, 13, 11, 1])

    def test_no_arrow(self):
        for text in ["0", "(1 2)", "((pair 1 2) 3)", "((new (fun x x)) 1)", "(fun x (x 1))",
                     "(let f (fun x x) (fun y (f 1)))", "((fst 0) 1)"]:
            for most in (0, 1, 2):
                self.assertEqual(arrows(text, most), [0])
        self.assertEqual(run(("arrows",)), [[0]])

    def test_too_large(self):
        self.assertEqual(arrows(OVERFULL, 2), [-7])
        self.assertEqual(arrows(OVERFULL, 1), [5, 6, 4, 9, 4, 13, 4, 17, 4, 20, 4])
        self.assertEqual(arrows(FULL, 2), [5, 6, 4, 9, 4, 13, 4, 17, 4, 20, 4])


class Bodies(unittest.TestCase):
    def test_the_example(self):
        self.assertEqual(ask(EXAMPLE, 1, ("bodies", 1), ("bodies", 9)), [[2, 1, 4, 1, 7], [0]])
        self.assertEqual(ask(EXAMPLE, 0, ("bodies", 1), ("bodies", 9)), [[1, 0], [0]])

    def test_the_first_unlike_label_tells(self):
        self.assertEqual([bodies(THROUGH, most, 1) for most in (0, 1, 2)],
                         [[1, 0], [2, 1, 5, 1, 12], [2, 2, 5, 9, 1, 12]])
        self.assertEqual([bodies(THROUGH, most, 4) for most in (0, 1, 2)], [[1, 0], [1, 1, 9], [1, 1, 9]])

    def test_the_second_label_tells(self):
        text = "(let f (fun x x) (let g (fun y (f y)) (pair (g 1) (g 2))))"
        self.assertEqual(bodies(text, 2, 1), [2, 2, 5, 9, 2, 5, 12])
        self.assertEqual(bodies(text, 1, 1), [1, 1, 5])

    def test_several_functions_at_one_call(self):
        text = "((if in (fun a a) (fun b 2)) 1)"
        self.assertEqual(ask(text, 1, ("bodies", 3), ("bodies", 5)), [[1, 1, 0], [1, 1, 0]])

    def test_strings_are_cut(self):
        text = "((fun x (x x)) (fun y (y y)))"
        self.assertEqual(ask(text, 2, ("bodies", 1), ("bodies", 5)), [[1, 1, 0], [3, 2, 2, 0, 2, 6, 2, 2, 6, 6]])
        self.assertEqual(ask(text, 1, ("bodies", 1), ("bodies", 5)), [[1, 1, 0], [2, 1, 2, 1, 6]])

    def test_bodies_that_are_never_come_to(self):
        for text, label in (("(fun x x)", 0), ("(let f (fun x x) (fun y (f 1)))", 1),
                            ("(let f (fun x x) (fun y (f 1)))", 3), ("(1 (fun x x))", 2),
                            ("((fun x 1) (fun y 2))", 3), ("(fst (fun x x))", 1)):
            for most in (0, 1, 2):
                self.assertEqual(bodies(text, most, label), [0])

    def test_a_body_without_any_argument(self):
        self.assertEqual(bodies("(let f (fun x 3) (f (fst 0)))", 1, 1), [1, 1, 3])

    def test_refusals(self):
        for label in (11, -1, LARGEST, -LARGEST):
            self.assertEqual(bodies(EXAMPLE, 1, label), [-3])
        for label in (0, 2, 3, 4, 5, 6, 7, 8, 10):
            self.assertEqual(bodies(EXAMPLE, 1, label), [-5])

    def test_refusals_in_their_order(self):
        told = ask(OVERFULL, 2, ("bodies", 24), ("bodies", -1), ("bodies", 0), ("bodies", 6), ("bodies", 4))
        self.assertEqual(told, [[-3], [-3], [-5], [-5], [-7]])
        self.assertEqual(bodies(FULL, 2, 4)[0], 17)


if __name__ == "__main__":
    unittest.main()
