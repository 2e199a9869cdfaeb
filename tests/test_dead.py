"""Promise 10: dead."""

import unittest

from tests.helper import EXAMPLE, FULL, LARGE_BY_NONE, LARGE_BY_ONE, OVERFULL, ask, run


def dead(text, most):
    return ask(text, most, ("dead",))[0]


class Dead(unittest.TestCase):
    def assert_dead(self, text, labels):
        for most in (0, 1, 2):
            self.assertEqual(dead(text, most), [len(labels)] + labels, text)

    def test_the_example(self):
        self.assert_dead(EXAMPLE, [10])

    def test_none(self):
        self.assertEqual(run(("dead",)), [[0]])
        for text in ["in", "(pair 1 2)", "((fun x x) 1)", "(let f (fun x x) (f 1))", FULL.replace("(x x)", "x")]:
            self.assert_dead(text, [])

    def test_a_body_that_is_never_come_to(self):
        self.assert_dead("(fun x x)", [1])
        self.assert_dead("(pair (fun x (add x (add 1 2))) (fun y 3))", [2, 3, 4, 5, 6, 8])
        self.assert_dead("(1 (fun x x))", [3])
        self.assert_dead("(let f (fun x (add x 1)) 7)", [2, 3, 4])

    def test_a_fun_within_such_a_body(self):
        self.assert_dead("(fun x (fun y (fun z 1)))", [1, 2, 3])
        self.assert_dead("(fun x ((fun y y) 1))", [1, 2, 3, 4])
        self.assert_dead("(let f (fun x x) (fun y (f 1)))", [2, 4, 5, 6])

    def test_a_fun_that_is_not_called_within_a_body_that_is_come_to(self):
        self.assert_dead("((fun x (fun y (pair x y))) 1)", [3, 4, 5])
        self.assert_dead("(((fun x (fun y (pair x y))) 1) 2)", [])

    def test_what_no_run_comes_to_is_not_dead(self):
        self.assert_dead("(if 0 1 ((fun x x) 2))", [])
        self.assert_dead("(pair (fst 0) ((fun x x) 2))", [])
        self.assert_dead("(let f (fun x x) (f (fst 0)))", [])

    def test_sharper_strings_have_more(self):
        text = "(let id (fun x x) (let a (id (fun y 3)) ((id (fun z 4)) 1)))"
        self.assertEqual([dead(text, most) for most in (0, 1, 2)], [[0], [1, 7], [1, 7]])

    def test_two_sites_have_more_than_one(self):
        text = "(let id (fun x x) (let ap (fun u (id u)) (let a (ap (fun y 3)) ((ap (fun z 4)) 1))))"
        self.assertEqual([dead(text, most) for most in (0, 1, 2)], [[0], [0], [1, 12]])

    def test_too_large(self):
        for text, large in ((LARGE_BY_NONE, 0), (LARGE_BY_ONE, 1), (OVERFULL, 2)):
            self.assertEqual([dead(text, most) == [-7] for most in (0, 1, 2)], [most == large for most in (0, 1, 2)])
        self.assertEqual(dead(FULL, 2), [0])


if __name__ == "__main__":
    unittest.main()
