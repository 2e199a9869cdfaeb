"""Promise 12: name."""

import unittest

from tests.helper import EXAMPLE, FULL, LARGE_BY_NONE, LARGE_BY_ONE, LARGEST, OVERFULL, ask, run


def name(text, most, label):
    return ask(text, most, ("name", label))[0]


class Name(unittest.TestCase):
    def test_the_example(self):
        for most in (0, 1, 2):
            self.assertEqual(ask(EXAMPLE, most, ("name", 0), ("name", 1), ("name", 9)), [[1, 1, 1], [2, 0, 0, 1, 9], [0]])

    def test_a_let(self):
        for most in (0, 1, 2):
            self.assertEqual(name("(let x 1 2)", most, 0), [1, 0, 0])
            self.assertEqual(name("(let x (if 0 (pair 1 2) (new 3)) x)", most, 0), [2, 2, 3, 3, 6])
            self.assertEqual(name("(let x (if 0 1 (fun y y)) x)", most, 0), [2, 0, 0, 1, 4])

    def test_a_fun(self):
        for most in (0, 1, 2):
            self.assertEqual(name("((fun x 3) (new 1))", most, 1), [1, 3, 3])
            self.assertEqual(name("(let f (fun x 3) (pair (f (pair 1 2)) (f (pair 3 4))))", most, 1), [2, 2, 6, 2, 11])

    def test_the_order_is_by_labels(self):
        text = "(let x (if in (if in (new 3) (fun x x)) (if in (pair 1 2) 0)) 7)"
        self.assertEqual(name(text, 1, 0), [4, 0, 0, 3, 5, 1, 7, 2, 11])

    def test_each_sort_once(self):
        # The pair is made in two strings, and comes to the name in two.
        text = "(let g (fun y y) (let f (fun x (pair x x)) (pair (g (f 1)) (g (f 2)))))"
        for most in (0, 1, 2):
            self.assertEqual(name(text, most, 1), [1, 2, 5])
            self.assertEqual(name(text, most, 4), [1, 0, 0])

    def test_a_binder_that_nothing_comes_to(self):
        for most in (0, 1, 2):
            self.assertEqual(name("(fun x x)", most, 0), [0])
            self.assertEqual(name("(let x (fst 0) x)", most, 0), [0])
            self.assertEqual(name("((fun x 1) (get 0))", most, 1), [0])
            self.assertEqual(name("(fun x (let y 1 y))", most, 1), [0])

    def test_a_name_that_is_carried_over_comes_to_no_other_binder(self):
        text = "(let a 1 (let f (fun b (fun c (pair a c))) ((f (new 1)) (fun d d))))"
        self.assertEqual(ask(text, 1, ("name", 0), ("name", 2), ("name", 3), ("name", 4)),
                         [[1, 0, 0], [1, 1, 3], [1, 3, 11], [1, 1, 13]])

    def test_sharper_strings_have_fewer(self):
        text = "(let ap (fun p ((fst p) (snd p))) (pair (ap (pair (fun a 1) 2)) (ap (pair (fun b 1) (pair 3 4)))))"
        self.assertEqual([name(text, most, 11) for most in (0, 1, 2)], [[2, 0, 0, 2, 19], [1, 0, 0], [1, 0, 0]])
        self.assertEqual([name(text, most, 17) for most in (0, 1, 2)], [[2, 0, 0, 2, 19], [1, 2, 19], [1, 2, 19]])

    def test_no_such_node(self):
        for label in (11, 12, 30, -1, LARGEST, -LARGEST):
            self.assertEqual(name(EXAMPLE, 1, label), [-3])
        self.assertEqual(run(("name", 0), ("name", 1)), [[-5], [-3]])

    def test_a_node_that_binds_nothing(self):
        for label in (2, 3, 4, 5, 6, 7, 8, 10):
            self.assertEqual(name(EXAMPLE, 1, label), [-5])
        for text in ["0", "in", "(1 2)", "(if 0 1 2)", "(pair 1 2)", "(fst 0)", "(snd 0)", "(new 0)", "(get 0)",
                     "(set 0 1)", "(add 0 1)"]:
            self.assertEqual(name(text, 1, 0), [-5])

    def test_refusals_in_their_order(self):
        told = ask(OVERFULL, 2, ("name", 24), ("name", -1), ("name", LARGEST), ("name", 1), ("name", 6), ("name", 0),
                   ("name", 3), ("name", 4))
        self.assertEqual(told, [[-3], [-3], [-3], [-5], [-5], [-7], [-7], [-7]])
        self.assertEqual(ask(FULL, 2, ("name", 3), ("name", 4)), [[1, 1, 4], [1, 1, 4]])

    def test_too_large(self):
        for text, large in ((LARGE_BY_NONE, 0), (LARGE_BY_ONE, 1)):
            self.assertEqual([name(text, most, 1) == [-7] for most in (0, 1, 2)], [most == large for most in (0, 1, 2)])


if __name__ == "__main__":
    unittest.main()
