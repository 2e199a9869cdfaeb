"""Promise 11: check."""

import unittest
from unittest import mock

from callstrings.facts import NODE
from callstrings.rules import grow_table
from tests.helper import EXAMPLE, FULL, LARGE_BY_NONE, LARGE_BY_ONE, LARGEST, OVERFULL, ask, run
from tests.maker import Maker
from tests.oracle import Plain, Slow, SlowRun
from tests.test_runs import LOOP, TEN

RUNS = [
    # That end: an if by 0 and by another number, add, references, functions and what they keep.
    "0", "in", "(if in (pair 1 2) (fun x x))", "(if (add in 1) (new 1) (get (new 2)))", "(if (add 99 in) 1 (fun x x))",
    "(let r (new 0) (let a (set r (fun x x)) ((get r) in)))", "(let r (new (fun x x)) (let s r (set s ((get r) r))))",
    "(let mk (fun a (fun b (pair a b))) (pair ((mk 1) (fun c c)) ((mk (fun d d)) 2)))",
    "(let x 1 (let f (fun y x) (let x (fun z z) (f x))))", "(snd (pair (fst (pair 1 in)) (fun x x)))",
    # That are wrong, at each kind of node that can be.
    "(in 1)", "(let f (fun x (x 1)) (f (f (fun y y))))", "(if (fun x x) 1 2)", "(add 1 (new 1))", "(fst (new 1))",
    "(snd in)", "(get (pair 1 2))", "(set (fun x x) (pair 1 2))",
    # That are long.
    "((fun x (x x)) (fun y (y y)))", "((fun x (pair in (x x))) (fun y (pair (y y) 1)))",
    "(let f (fun g (fun n ((g g) (add n 1)))) ((f f) in))",
    # Just 300 steps, and one more; wrong at the last one.
    LOOP.format(TEN), LOOP.format(TEN.replace("5", "(new 5)")), LOOP.format(TEN.replace("(new 5)", "(fst 5)")),
]


def check(text, most, given):
    return ask(text, most, ("check", given))[0]


class Check(unittest.TestCase):
    def test_the_example(self):
        for most in (0, 1, 2):
            for given in range(10):
                self.assertEqual(check(EXAMPLE, most, given), [1])

    def test_at_the_beginning(self):
        self.assertEqual(run(("check", 0), ("check", 9)), [[1], [1]])

    def test_runs_of_each_kind(self):
        endings = set()
        for text in RUNS:
            for given in (0, 1, 9):
                endings.add(SlowRun(Plain(text), given).ending)
                self.assertEqual([check(text, most, given) for most in (0, 1, 2)], [[1]] * 3, text)
        self.assertEqual(endings, {"ended", "wrong", "long"})

    def test_out_of_range(self):
        for given in (-1, 10, 11, 99, -10, LARGEST, -LARGEST):
            self.assertEqual(check(EXAMPLE, 1, given), [-2])
        for text, most in ((LARGE_BY_NONE, 0), (LARGE_BY_ONE, 1), (OVERFULL, 2)):
            for given in (-1, 10, LARGEST, -LARGEST):
                self.assertEqual(check(text, most, given), [-2])

    def test_too_large(self):
        for text, large in ((LARGE_BY_NONE, 0), (LARGE_BY_ONE, 1), (OVERFULL, 2)):
            for given in (0, 5, 9):
                told = [check(text, most, given) for most in (0, 1, 2)]
                self.assertEqual(told, [[-7] if most == large else [1] for most in (0, 1, 2)])
        self.assertEqual(check(FULL, 2, 0), [1])

    def test_what_is_run_stays_as_it_was(self):
        text = "(let r (new 0) (let a (set r (fun x x)) (get r)))"
        calls = [("check", given) for given in (0, 1, 0, 10, -1, 0)]
        told = ask(text, 2, ("facts",), *calls, ("facts",), ("size",))
        self.assertEqual(told[1:7], [[1], [1], [1], [-2], [-2], [1]])
        self.assertEqual(told[0], told[7])
        self.assertEqual(told[8], [10, 2, 0, 1])

    def test_made_programs(self):
        maker = Maker(40)
        for turn in range(100):
            text = maker.program() if turn % 2 else maker.many_calls()
            for most in (0, 1, 2):
                for given in (0, 7):
                    self.assertEqual(check(text, most, given), [-7] if self.large(text, most) else [1], text)

    def large(self, text, most):
        return ask(text, most, ("facts",)) == [[-7]]

    def test_runs_are_within_tables_by_the_second_way_too(self):
        maker = Maker(41)
        for turn in range(30):
            plain = Plain(maker.program() if turn % 2 else maker.many_calls())
            tables = [Slow(plain, most) for most in (0, 1, 2)]
            for event, label, string, value in SlowRun(plain, 0).events:
                node = plain.parts[label][0] if event == "call" else label
                for table in tables:
                    self.assertIn(value, [sort[:2] for sort in table.at("node", node, string[:table.most])])


# Each run is within its table, so 0 is answered by tables alone from which facts have been taken.
class Missing(unittest.TestCase):
    def thinned(self, most, cells, bodies=(), text=EXAMPLE, given=3):
        """What check answers if nothing is at these cells and these bodies (fun, string) are not come to."""
        def grow_thinner(program, most):
            table = grow_table(program, most)
            for cell in cells:
                self.assertTrue(table.held.pop(cell))
            for fun, string in bodies:
                self.assertTrue(table.come_to[fun].pop(string))
            return table
        with mock.patch("callstrings.calls.grow_table", grow_thinner):
            return check(text, most, given)

    def test_nothing_is_missing(self):
        self.assertEqual(self.thinned(1, []), [1])
        self.assertEqual(self.thinned(1, [(1, 0, ()), (2, 3, ()), (3, 3, ())]), [1])

    def test_a_flow(self):
        for label in (0, 1, 3, 4, 5, 6, 7, 8, 9):
            for most in (0, 1, 2):
                self.assertEqual(self.thinned(most, [(NODE, label, ())]), [0, label])

    def test_a_flow_in_its_string_cut(self):
        self.assertEqual(self.thinned(0, [(NODE, 2, ())]), [0, 2])
        for most in (1, 2):
            for site in (4, 7):
                self.assertEqual(self.thinned(most, [(NODE, 2, (site,))]), [0, 2])
        far = "(let a (fun x x) (let b (fun y (a y)) (let c (fun z (b z)) (c 1))))"
        for most, string in ((0, ()), (1, (5,)), (2, (5, 10))):
            self.assertEqual(self.thinned(most, [(NODE, 2, string)], text=far), [0, 2])

    def test_a_call(self):
        self.assertEqual(self.thinned(0, [], [(1, ())]), [0, 4])
        for most in (1, 2):
            for site in (4, 7):
                self.assertEqual(self.thinned(most, [], [(1, (site,))]), [0, site])

    def test_a_call_in_its_string_cut(self):
        far = "(let a (fun x x) (let b (fun y (a y)) (let c (fun z (b z)) (c 1))))"
        for most, string in ((0, ()), (1, (5,)), (2, (5, 10))):
            self.assertEqual(self.thinned(most, [], [(1, string)], far), [0, 5])

    def test_the_first_that_comes_about_tells(self):
        self.assertEqual(self.thinned(1, [(NODE, 4, ()), (NODE, 6, ())]), [0, 6])
        self.assertEqual(self.thinned(1, [(NODE, 0, ()), (NODE, 9, ())]), [0, 9])
        # The flow in a body comes about after its call, the argument's ahead of it.
        self.assertEqual(self.thinned(1, [(NODE, 2, (4,))], [(1, (4,))]), [0, 4])
        self.assertEqual(self.thinned(1, [(NODE, 6, ())], [(1, (4,))]), [0, 6])

    def test_the_run_is_on_the_input(self):
        text = "(if (add in 97) (pair 1 2) (fun x x))"
        for given in range(10):
            told = [self.thinned(1, [(NODE, label, ())], text=text, given=given) for label in (4, 7)]
            self.assertEqual(told, [[0, 4], [1]] if given == 3 else [[1], [0, 7]])

    def test_what_comes_about_until_a_run_stands_still(self):
        self.assertEqual(self.thinned(1, [(NODE, 2, ())], text="(fst (add 1 in))"), [0, 2])
        self.assertEqual(self.thinned(1, [], text="(fst (add 1 in))"), [1])
        loop = "((fun x (x x)) (fun y (y y)))"
        self.assertEqual(self.thinned(1, [(NODE, 7, (6,))], text=loop), [0, 7])
        self.assertEqual(self.thinned(2, [], [(5, (6, 6))], loop), [0, 6])

    def test_another_sort_is_not_enough(self):
        def grow_other(program, most):
            table = grow_table(program, most)
            table.held[(NODE, 9, ())] = {(1, 1, ()): True, (0, 0, ()): True, (2, 9, ()): True}
            return table
        with mock.patch("callstrings.calls.grow_table", grow_other):
            self.assertEqual(check(EXAMPLE, 1, 3), [0, 9])

    def test_any_string_of_making_is_enough(self):
        def grow_other(program, most):
            table = grow_table(program, most)
            table.held[(NODE, 9, ())] = {(1, 9, (4,)): True}
            return table
        with mock.patch("callstrings.calls.grow_table", grow_other):
            self.assertEqual(check(EXAMPLE, 1, 3), [1])


if __name__ == "__main__":
    unittest.main()
