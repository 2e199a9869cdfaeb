"""Promise 3: facts."""

import unittest

from tests.helper import EXAMPLE, FULL, OVERFULL, ask, run


def facts(text, most):
    return ask(text, most, ("facts",))[0]


class Counts(unittest.TestCase):
    def test_the_example(self):
        self.assertEqual(facts(EXAMPLE, 0), [21, 1])
        self.assertEqual(facts(EXAMPLE, 1), [18, 2])
        self.assertEqual(facts(EXAMPLE, 2), [18, 2])

    def test_the_object_at_the_beginning(self):
        self.assertEqual(run(("facts",)), [[1, 0]])

    def test_each_kind_of_place(self):
        for most in (0, 1, 2):
            self.assertEqual(facts("in", most), [1, 0])
            self.assertEqual(facts("(add 1 2)", most), [3, 0])
            self.assertEqual(facts("(let x 1 x)", most), [4, 0])
            self.assertEqual(facts("(pair 1 2)", most), [5, 0])
            self.assertEqual(facts("(new 1)", most), [3, 0])
            self.assertEqual(facts("(get (new 1))", most), [4, 0])
            self.assertEqual(facts("(set (new 1) (fun x x))", most), [6, 0])
            self.assertEqual(facts("(fst (pair 1 2))", most), [6, 0])
            self.assertEqual(facts("(if 0 1 (fun x x))", most), [5, 0])
            self.assertEqual(facts("((fun x x) 1)", most), [6, 1])

    def test_wrong_kinds_give_nothing(self):
        for most in (0, 1, 2):
            self.assertEqual(facts("(1 2)", most), [2, 0])
            self.assertEqual(facts("(fst (new 1))", most), [3, 0])
            self.assertEqual(facts("(snd (fun x x))", most), [1, 0])
            self.assertEqual(facts("(get (pair 1 2))", most), [5, 0])
            self.assertEqual(facts("(set 1 2)", most), [3, 0])
            self.assertEqual(facts("(add (fun x x) (fst 0))", most), [3, 0])
            self.assertEqual(facts("(if (fun x x) 1 2)", most), [4, 0])

    def test_a_body_that_is_never_come_to(self):
        for most in (0, 1, 2):
            self.assertEqual(facts("(fun x (pair 1 (add 2 x)))", most), [1, 0])
            self.assertEqual(facts("(let f (fun x x) (fun y (f 1)))", most), [4, 0])

    def test_a_body_is_come_to_without_any_argument(self):
        for most in (0, 1, 2):
            self.assertEqual(facts("((fun x 3) (fst 0))", most), [5, 1])

    def test_longer_strings(self):
        # One body that's run from itself: a string for each row of sites.
        text = "(let f (fun x (pair (x x) (x x))) (f f))"
        self.assertEqual([facts(text, most) for most in (0, 1, 2)], [[17, 1], [39, 3], [83, 7]])

    def test_not_ended_runs_have_tables(self):
        self.assertEqual([facts("((fun x (x x)) (fun y (y y)))", most)[1] for most in (0, 1, 2)], [2, 3, 4])


class TooLarge(unittest.TestCase):
    # In each of 21 strings: 4 calls, 8 names, 3 adds or ifs, the number 0, the
    # binder, the body; outside 6 facts of the let, and 16 of the pairs.
    def test_just_four_hundred_by_hand(self):
        text = "(let f (fun x (add (add (x x) (x x)) (if (x x) (x x) (fst 0)))) (f f))"
        self.assertEqual(facts(text, 2), [21 * 18 + 6, 21])
        self.assertEqual(facts(f"(pair {text} (pair 0 (pair 0 (pair 0 0))))", 2), [400, 21])

    def test_the_limit(self):
        self.assertEqual(facts(FULL, 2), [400, 17])
        self.assertEqual(facts(OVERFULL, 2), [-7])

    def test_other_strings_may_be_well(self):
        told = run(("program", OVERFULL), ("facts",), ("strings", 2), ("facts",), ("strings", 1), ("facts",),
                   ("strings", 2), ("program", FULL), ("facts",), ("program", OVERFULL), ("facts",))
        self.assertEqual(told[3], [-7])
        self.assertEqual(told[1], told[5])
        self.assertEqual(told[1][1], 5)
        self.assertEqual(told[8], [400, 17])
        self.assertEqual(told[10], [-7])


if __name__ == "__main__":
    unittest.main()
