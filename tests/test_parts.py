"""Promise 9: parts."""

import unittest

from callstrings.compare import find_parting, list_places
from callstrings.facts import BINDER, CONTENTS, FIRST, NODE, SECOND
from callstrings.programs import read_program
from callstrings.rules import grow_table
from tests.helper import EXAMPLE, FULL, LARGE_BY_NONE, LARGE_BY_ONE, LARGEST, OVERFULL, ask, run

# One function is handed the other's argument, but no node tells. Labels: 11 and 17 the funs that are called.
BINDERS = "(let ap (fun p ((fst p) (snd p))) (pair (ap (pair (fun a 1) 2)) (ap (pair (fun b 1) (pair 3 4)))))"
# The same with a function between.
FAR_BINDERS = BINDERS.replace("(pair (ap (pair (fun a", "(let b (fun q (ap q)) (pair (b (pair (fun a").replace(
    "(ap (pair (fun b", "(b (pair (fun b") + ")"
# What's put into one reference seems to be in the other. Labels: 10 and 13 the references.
CONTENTS_ONLY = ("(let st (fun p (add 0 (set (fst p) (snd p))))"
                 " (let r (new 0) (let q (new 0) (pair (st (pair r 1)) (st (pair q (fun a 1)))))))")
TWICE = "(let id (fun x x) (let ap (fun y (id y)) (pair (ap 1) (ap (fun z z)))))"


def parts(text, k):
    return run(("program", text), ("parts", k))[1]


class Parts(unittest.TestCase):
    def test_the_example(self):
        self.assertEqual([parts(EXAMPLE, k) for k in (1, 2)], [[1, 0, 4], [0]])

    def test_at_the_beginning(self):
        self.assertEqual(run(("parts", 1), ("parts", 2)), [[0], [0]])

    def test_both_have_the_same(self):
        for text in ["in", "(fun x x)", "((fun x x) 1)", "(let f (fun x x) (pair (f 1) (f 2)))", FULL]:
            self.assertEqual([parts(text, k) for k in (1, 2)], [[0], [0]])

    def test_other_strings_of_making_do_not_count(self):
        # The function is made in several strings by one table, in one by the other.
        text = "(let f (fun x (fun y y)) (pair (f 1) (f 2)))"
        self.assertEqual(ask(text, 0, ("at", 5, [])) + ask(text, 1, ("at", 5, [])), [[1, 1, 2, 0], [1, 1, 2, 1, 5]])
        self.assertEqual([parts(text, k) for k in (1, 2)], [[0], [0]])

    def test_a_node_comes_first(self):
        self.assertEqual([parts(TWICE, k) for k in (1, 2)], [[0], [1, 0, 9]])
        self.assertEqual(parts("(let id (fun x x) (pair ((id (fun a 1)) 1) ((id (fun b 2)) 1)))", 1), [1, 0, 5])

    def test_a_binder_comes_first(self):
        self.assertEqual([parts(BINDERS, k) for k in (1, 2)], [[1, 1, 11], [0]])
        self.assertEqual([parts(FAR_BINDERS, k) for k in (1, 2)], [[0], [1, 1, 16]])

    def test_the_contents_of_a_reference_come_first(self):
        self.assertEqual([parts(CONTENTS_ONLY, k) for k in (1, 2)], [[1, 4, 10], [0]])
        other = CONTENTS_ONLY.replace("(pair r 1)", "(pair q 1)").replace("(pair q (", "(pair r (")
        self.assertEqual([parts(other, k) for k in (1, 2)], [[1, 4, 13], [0]])

    def test_out_of_range(self):
        for k in (0, 3, -1, -2, 4, LARGEST, -LARGEST):
            for text in (EXAMPLE, OVERFULL, LARGE_BY_NONE, LARGE_BY_ONE):
                self.assertEqual(parts(text, k), [-2])

    def test_too_large_by_either_table(self):
        for most in (0, 1, 2):
            self.assertEqual(ask(OVERFULL, most, ("parts", 1), ("parts", 2)), [[0], [-7]])
            self.assertEqual(ask(LARGE_BY_ONE, most, ("parts", 1), ("parts", 2)), [[-7], [-7]])
            self.assertEqual(ask(LARGE_BY_NONE, most, ("parts", 1), ("parts", 2)), [[-7], [0]])

    def test_strings_stay_as_they_were(self):
        for most in (0, 1, 2):
            for k in (1, 2, 3, -LARGEST):
                for text in (EXAMPLE, OVERFULL):
                    told = ask(text, most, ("facts",), ("parts", k), ("facts",), ("size",), ("strings", 0))
                    self.assertEqual(told[0], told[2])
                    self.assertEqual((told[3][1], told[4]), (most, [most]))


# A pair's parts have just what's at their nodes, so neither is the first place
# where true tables part: here tables are changed by hand.
class Places(unittest.TestCase):
    # Labels: 1 and 6 the lets, 2 and 10 the pairs, 4 and 7 the news, 0 and 9 the funs.
    TEXT = "(fun a (let b (pair 1 (new 2)) (let c (new 3) (fun d (pair 4 5)))))"
    PLACES = [(NODE, label) for label in range(13)] + [
        (BINDER, 0), (BINDER, 1), (BINDER, 6), (BINDER, 9),
        (FIRST, 2), (SECOND, 2), (FIRST, 10), (SECOND, 10), (CONTENTS, 4), (CONTENTS, 7)]

    def grow(self):
        return grow_table(read_program(list(self.TEXT.encode("ascii"))), 1)

    def test_their_order(self):
        self.assertEqual(list_places(self.grow().program), self.PLACES)

    def test_the_first_one_tells(self):
        for turn, (group, label) in enumerate(self.PLACES):
            one, other = self.grow(), self.grow()
            for later in self.PLACES[turn:]:
                other.put(later + ((),), (2, 12, (3,)))
            self.assertEqual(find_parting(one, other), (group, label))
            self.assertEqual(find_parting(other, one), (group, label))
            self.assertIsNone(find_parting(other, other))


if __name__ == "__main__":
    unittest.main()
