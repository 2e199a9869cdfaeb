"""Promises 4 and 5: values and at."""

import unittest

from tests.helper import EXAMPLE, FULL, LARGEST, OVERFULL, ask, run

# Labels: 1 the fun, 2 its name's use, 5 the call in the second fun, 9 and 12 the calls outside, 14 the function.
TWICE = "(let id (fun x x) (let ap (fun y (id y)) (pair (ap 1) (ap (fun z z)))))"
# Labels: 2 the pair, 7 and 11 the calls, 6 and 10 the fsts, 13 the function.
PAIRS = "(let mk (fun x (pair x 0)) (pair (fst (mk 1)) (fst (mk (fun y y)))))"
# Labels: 1 and 2 the funs, 3 the outer name's use, 6 and 11 the inner calls, 5 and 10 the outer ones.
KEPT = "(let mk (fun a (fun b a)) (pair ((mk 1) 2) ((mk (fun c c)) 3)))"
# Labels: 2 the pair, 8 and 11 the calls, 14 the last name.
EITHER = "(let f (fun x (pair x x)) (let p (if in (f 1) (f 2)) p))"
# Labels: 2 the new, 5 and 9 the calls, 15 the function that's put there later, 18 and 20 the gets.
CELLS = "(let mk (fun x (new x)) (let a (mk 1) (let b (mk 2) (let c (set b (fun y y)) (pair (get a) (get b))))))"


def values(text, most, label):
    return ask(text, most, ("values", label))[0]


def at(text, most, label, string):
    return ask(text, most, ("at", label, string))[0]


class Values(unittest.TestCase):
    def test_the_example(self):
        self.assertEqual(ask(EXAMPLE, 1, ("values", 2), ("values", 4), ("values", 7), ("values", 10), ("values", 0)),
                         [[2, 0, 0, 1, 9], [1, 0, 0], [1, 1, 9], [0], [1, 2, 3]])
        self.assertEqual(ask(EXAMPLE, 0, ("values", 4), ("values", 7)), [[2, 0, 0, 1, 9]] * 2)

    def test_the_order_is_by_labels(self):
        text = "(if in (if in 0 (pair 1 2)) (if in (fun x x) (new 3)))"
        self.assertEqual(values(text, 1, 0), [4, 0, 0, 2, 5, 1, 10, 3, 12])
        text = "(if in (if in (new 3) (fun x x)) (if in (pair 1 2) 0))"
        self.assertEqual(values(text, 1, 0), [4, 0, 0, 3, 4, 1, 6, 2, 10])

    def test_each_sort_once(self):
        for most in (0, 1, 2):
            self.assertEqual(values(EITHER, most, 14), [1, 2, 2])
            self.assertEqual(values(EITHER, most, 2), [1, 2, 2])
            self.assertEqual(values(EITHER, most, 3), [1, 0, 0])

    def test_both_branches_count(self):
        self.assertEqual(values("(if 0 1 (fun x x))", 1, 0), [2, 0, 0, 1, 3])
        self.assertEqual(values("(if (fst 0) (fun x x) (pair 1 2))", 1, 0), [2, 1, 3, 2, 5])

    def test_innermost_binders_count(self):
        self.assertEqual(values("(let x 1 (let x (fun y y) x))", 1, 0), [1, 1, 3])
        self.assertEqual(values("(let x (fun y y) (let x (pair x 1) (fst x)))", 1, 0), [1, 1, 1])
        self.assertEqual(values("(let x 1 ((fun x x) (fun y y)))", 1, 0), [1, 1, 5])
        self.assertEqual(values("(let x 1 (let f (fun x 2) x))", 1, 0), [1, 0, 0])

    def test_references_that_are_set_later(self):
        for most in (0, 1, 2):
            text = "(let r (new 0) (let a (set r (fun x x)) (get r)))"
            self.assertEqual(values(text, most, 8), [2, 0, 0, 1, 6])
            self.assertEqual(values(text, most, 4), [1, 1, 6])
            text = "(let r (new 0) (pair (get r) (set r (fun x x))))"
            self.assertEqual(values(text, most, 4), [2, 0, 0, 1, 8])

    def test_a_set_through_a_function(self):
        text = "(let r (new 0) (let f (fun x (set r x)) (pair (f (pair 1 2)) (get r))))"
        for most in (0, 1, 2):
            self.assertEqual(values(text, most, 14), [2, 0, 0, 2, 11])

    def test_references_made_in_several_strings(self):
        for most, first in ((0, [2, 0, 0, 1, 15]), (1, [1, 0, 0]), (2, [1, 0, 0])):
            self.assertEqual(values(CELLS, most, 18), first)
            self.assertEqual(values(CELLS, most, 20), [2, 0, 0, 1, 15])

    def test_pairs_made_in_several_strings(self):
        for most, first, second in ((0, [2, 0, 0, 1, 13], [2, 0, 0, 1, 13]), (1, [1, 0, 0], [1, 1, 13]),
                                    (2, [1, 0, 0], [1, 1, 13])):
            self.assertEqual(values(PAIRS, most, 6), first)
            self.assertEqual(values(PAIRS, most, 10), second)

    def test_first_and_second_parts(self):
        self.assertEqual(values("(fst (pair 1 (fun x x)))", 1, 0), [1, 0, 0])
        self.assertEqual(values("(snd (pair 1 (fun x x)))", 1, 0), [1, 1, 3])

    def test_names_bound_outside(self):
        for most, first, second in ((0, [2, 0, 0, 1, 13], [2, 0, 0, 1, 13]), (1, [1, 0, 0], [1, 1, 13]),
                                    (2, [1, 0, 0], [1, 1, 13])):
            self.assertEqual(values(KEPT, most, 5), first)
            self.assertEqual(values(KEPT, most, 10), second)

    def test_names_bound_two_functions_outside(self):
        text = "(((fun a (fun b (fun c a))) (pair 1 2)) 3)"
        self.assertEqual(values(f"({text} 4)", 2, 0), [1, 2, 7])
        self.assertEqual(values(f"({text} 4)", 0, 0), [1, 2, 7])

    def test_a_functions_own_name_is_not_bound_outside(self):
        # The inner function is made in 6 and also run in 6: what its name is bound to there stays there.
        text = "(let g (fun a (fun b b)) (let s (fun k (k 1)) (let f (s g) (pair (s f) (f (fun z z))))))"
        self.assertEqual([values(text, most, 17) for most in (0, 1, 2)],
                         [[2, 0, 0, 1, 19], [1, 1, 19], [1, 1, 19]])

    def test_two_sites_part_what_one_does_not(self):
        both = [2, 0, 0, 1, 14]
        self.assertEqual([values(TWICE, most, 9) for most in (0, 1, 2)], [both, both, [1, 0, 0]])
        self.assertEqual([values(TWICE, most, 12) for most in (0, 1, 2)], [both, both, [1, 1, 14]])

    def test_refusals(self):
        for label in (11, 12, -1, 30, LARGEST, -LARGEST):
            self.assertEqual(values(EXAMPLE, 1, label), [-3])
        for label in (24, -1, LARGEST, -LARGEST):
            self.assertEqual(values(OVERFULL, 2, label), [-3])
        for label in (0, 5, 23):
            self.assertEqual(values(OVERFULL, 2, label), [-7])
        self.assertEqual(values(FULL, 2, 0), [1, 3, 0])

    def test_at_the_beginning(self):
        self.assertEqual(run(("values", 0), ("values", 1), ("at", 0, []), ("at", 0, [0])),
                         [[1, 0, 0], [-3], [1, 0, 0, 0], [-4]])


class At(unittest.TestCase):
    def test_the_example(self):
        told = ask(EXAMPLE, 1, ("at", 2, [4]), ("at", 2, [7]), ("at", 2, []), ("at", 4, []), ("at", 4, [4]))
        self.assertEqual(told, [[1, 0, 0, 0], [1, 1, 9, 0], [0], [1, 0, 0, 0], [0]])
        self.assertEqual(at(EXAMPLE, 0, 2, []), [2, 0, 0, 0, 1, 9, 0])

    def test_sorts_of_several_strings(self):
        self.assertEqual(at(EITHER, 0, 14, []), [1, 2, 2, 0])
        self.assertEqual(at(EITHER, 1, 14, []), [2, 2, 2, 1, 8, 2, 2, 1, 11])
        self.assertEqual(at(EITHER, 1, 2, [11]), [1, 2, 2, 1, 11])

    def test_labels_come_ahead_of_strings(self):
        text = "(let f (fun x (if x (pair 1 2) (new 3))) (if 0 (f 1) (if 0 (f 2) 9)))"
        self.assertEqual(at(text, 1, 0, []), [5, 0, 0, 0, 2, 4, 1, 11, 2, 4, 1, 16, 3, 7, 1, 11, 3, 7, 1, 16])

    def test_the_first_unlike_label_tells(self):
        # The pair is made in 7 15 and in 12: a longer string may stand ahead of a shorter one.
        text = "(let f (fun x (pair x x)) (let g (fun y (f y)) (if 0 (f 1) (g 2))))"
        self.assertEqual(at(text, 2, 10, []), [2, 2, 2, 2, 7, 15, 2, 2, 1, 12])
        self.assertEqual(at(text, 1, 10, []), [2, 2, 2, 1, 7, 2, 2, 1, 12])

    def test_strings_of_two(self):
        self.assertEqual(at(TWICE, 1, 2, [5]), [2, 0, 0, 0, 1, 14, 0])
        told = ask(TWICE, 2, ("at", 2, [5]), ("at", 2, [5, 9]), ("at", 2, [5, 12]), ("at", 2, [9, 5]),
                   ("at", 7, [12]), ("at", 2, []))
        self.assertEqual(told, [[0], [1, 0, 0, 0], [1, 1, 14, 0], [0], [1, 1, 14, 0], [0]])

    def test_names_bound_outside(self):
        told = ask(KEPT, 1, ("at", 3, [5]), ("at", 3, [10]), ("at", 3, [6]), ("at", 2, [6]), ("at", 6, []))
        self.assertEqual(told, [[1, 0, 0, 0], [1, 1, 13, 0], [0], [1, 1, 2, 1, 6], [1, 1, 2, 1, 6]])

    def test_no_such_node(self):
        for label in (11, -1, LARGEST, -LARGEST):
            self.assertEqual(at(EXAMPLE, 1, label, []), [-3])
            self.assertEqual(at(EXAMPLE, 1, label, [0, 0]), [-3])
        for label in (24, -1, LARGEST, -LARGEST):
            self.assertEqual(at(OVERFULL, 2, label, [0, 0, 0]), [-3])

    def test_too_many_labels(self):
        for most in (0, 1, 2):
            for size in range(5):
                told = at(EXAMPLE, most, 2, [4, 7, 4, 7][:size])
                self.assertEqual(told == [-4], size > most)

    def test_no_label_of_a_call(self):
        for label in (0, 1, 2, 3, 5, 6, 8, 9, 10, 11, -1, LARGEST, -LARGEST):
            told = ask(EXAMPLE, 2, ("at", 0, [label]), ("at", 2, [4, label]), ("at", 2, [label, 7]))
            self.assertEqual(told, [[-4]] * 3)

    def test_too_large_comes_last(self):
        told = ask(OVERFULL, 2, ("at", 0, []), ("at", 24, []), ("at", 0, [0]), ("at", 0, [6, 6, 6]), ("at", 0, [6, 9]))
        self.assertEqual(told, [[-7], [-3], [-4], [-4], [-7]])
        self.assertEqual(at(FULL, 2, 0, []), [1, 3, 0, 0])


if __name__ == "__main__":
    unittest.main()
