"""Promise 11, from within: runs, what comes about in them, and in which order."""

import unittest

from callstrings.programs import read_program
from callstrings.runs import ENDED, LONG, WRONG, Run, finish
from tests.helper import EXAMPLE
from tests.maker import Maker
from tests.oracle import Plain, SlowRun

WORDS = {ENDED: "ended", WRONG: "wrong", LONG: "long"}
# Counts down from 28: 290 steps, and those of what stands for the braces.
LOOP = "(let f (fun g (fun n (if n {} ((g g) (add n 99))))) ((f f) 28))"
TEN = "(pair (pair (pair 1 2) 3) (pair 4 (new 5)))"


def start(text, given=0):
    """The run, gone through, and how it ended."""
    run = Run(read_program(list(text.encode("ascii"))), given)
    return run, WORDS[finish(run)]


def events(text, given=0):
    """What comes about, in order: a word, the label, the string, what the value is."""
    return [(("flow", "call")[one[0]],) + one[1:] for one in start(text, given)[0].came_about]


def result(text, given=0):
    """What the first node gives: what it is, and the label."""
    run, ending = start(text, given)
    last = list(run.came_about)[-1]
    assert ending == "ended" and last[:3] == (0, 0, ())
    return last[3]


def is_zero(expression, given=0):
    return result(f"(if {expression} (pair 1 2) (fun x x))", given)[0] == 2


def gives(expression, number, given=0):
    """True if the expression gives just this number."""
    return is_zero(f"(add {expression} {(100 - number) % 100})", given)


class Values(unittest.TestCase):
    def test_numbers(self):
        for number in (0, 1, 9, 10, 42, 99):
            self.assertTrue(gives(str(number), number))
            self.assertFalse(gives(str(number), (number + 1) % 100))

    def test_the_input(self):
        for given in range(10):
            self.assertTrue(gives("in", given, given))
            self.assertTrue(gives("((fun x in) 77)", given, given))

    def test_if(self):
        self.assertEqual(result("(if 0 (pair 1 2) (fun x x))"), (2, 2))
        for number in (1, 7, 99):
            self.assertEqual(result(f"(if {number} (pair 1 2) (fun x x))"), (1, 5))
        self.assertEqual(result("(if in 7 (new 1))", 0), (0, 0))
        self.assertEqual(result("(if in 7 (new 1))", 9), (3, 3))

    def test_only_one_branch_is_run(self):
        self.assertEqual(start("(if 0 1 (fst 2))")[1], "ended")
        self.assertEqual(start("(if 1 (fst 2) 1)")[1], "ended")

    def test_add(self):
        self.assertTrue(gives("(add 2 3)", 5))
        self.assertTrue(gives("(add 98 1)", 99))
        self.assertTrue(gives("(add 99 1)", 0))
        self.assertTrue(gives("(add 99 99)", 98))

    def test_pairs(self):
        self.assertTrue(gives("(fst (pair 3 4))", 3))
        self.assertTrue(gives("(snd (pair 3 4))", 4))
        self.assertTrue(gives("(fst (snd (pair 1 (pair 7 2))))", 7))
        self.assertEqual(result("(pair 1 2)"), (2, 0))

    def test_references(self):
        self.assertTrue(gives("(get (new 6))", 6))
        self.assertTrue(gives("(let r (new 6) (let a (set r 8) (get r)))", 8))
        self.assertTrue(gives("(set (new 6) 8)", 8))
        self.assertTrue(gives("(let r (new 1) (let s r (let a (set s 5) (get r))))", 5))
        self.assertTrue(gives("(let r (new 1) (let a (get r) (let b (set r 5) a)))", 1))
        self.assertTrue(gives("(let r (new 1) (add (set r (add (get r) 1)) (get r)))", 4))
        self.assertEqual(result("(let r (new 6) r)"), (3, 1))

    def test_each_new_makes_another_reference(self):
        text = "(let f (fun x (new x)) (let a (f 1) (let b (f 2) (let c (set a 9) (get b)))))"
        self.assertTrue(gives(text, 2))

    def test_functions_keep_what_is_bound_around_them(self):
        self.assertTrue(gives("(let x 3 (let f (fun y (add x y)) (let x 50 (f 4))))", 7))
        self.assertTrue(gives("(((fun a (fun b (add a b))) 5) 6)", 11))
        self.assertTrue(gives("(let mk (fun a (fun b a)) (let p (mk 1) (let q (mk 2) (p 0))))", 1))
        self.assertTrue(gives("(let mk (fun a (fun b a)) (let p (mk 1) (let q (mk 2) (q 0))))", 2))

    def test_functions_keep_references_not_their_contents(self):
        self.assertTrue(gives("(let r (new 1) (let f (fun x (get r)) (let a (set r 8) (f 0))))", 8))

    def test_the_innermost_binder_counts(self):
        self.assertTrue(gives("(let x 1 (let x (add x 1) x))", 2))
        self.assertTrue(gives("(let x 1 ((fun x x) 7))", 7))
        self.assertTrue(gives("(let x 1 (add ((fun x x) 7) x))", 8))


class Wrong(unittest.TestCase):
    def assert_wrong(self, text, node, count):
        """Wrong at this node, so many nodes having been run."""
        run, ending = start(text)
        self.assertEqual((ending, run.frames[-1].label, run.steps), ("wrong", node, count), text)
        self.assertNotIn((0, node), [event[:2] for event in run.came_about])

    def test_a_call(self):
        for function, count in (("1", 3), ("(new 1)", 4), ("(pair 1 2)", 5)):
            self.assert_wrong(f"({function} 2)", 0, count)

    def test_a_calls_parts_are_both_run_ahead(self):
        self.assertEqual(events("(1 2)"), [("flow", 1, (), (0, 0)), ("flow", 2, (), (0, 0))])
        self.assert_wrong("(1 (2 3))", 2, 5)

    def test_if(self):
        for part, count in (("(fun x x)", 2), ("(new 1)", 3), ("(pair 1 2)", 4)):
            self.assert_wrong(f"(if {part} 1 2)", 0, count)

    def test_add(self):
        for part, count in (("(fun x x)", 3), ("(new 1)", 4), ("(pair 1 2)", 5)):
            self.assert_wrong(f"(add {part} 2)", 0, count)
            self.assert_wrong(f"(add 2 {part})", 0, count)

    def test_fst_and_snd(self):
        for part, count in (("1", 2), ("(fun x x)", 2), ("(new 1)", 3)):
            self.assert_wrong(f"(fst {part})", 0, count)
            self.assert_wrong(f"(snd {part})", 0, count)

    def test_get(self):
        for part, count in (("1", 2), ("(fun x x)", 2), ("(pair 1 2)", 4)):
            self.assert_wrong(f"(get {part})", 0, count)

    def test_set(self):
        for part, count in (("1", 3), ("(fun x x)", 3), ("(pair 1 2)", 5)):
            self.assert_wrong(f"(set {part} 7)", 0, count)

    def test_within_others(self):
        self.assert_wrong("(let f (fun x (fst x)) (pair 1 (f 2)))", 2, 9)


class Long(unittest.TestCase):
    def test_a_program_that_calls_itself_without_end(self):
        for text in ["((fun x (x x)) (fun y (y y)))", "((fun x (add 1 (x x))) (fun y (add 1 (y y))))",
                     "((fun x (new (x x))) (fun y (new (y y))))"]:
            run, ending = start(text)
            self.assertEqual((ending, run.steps), ("long", 300))
            self.assertNotIn(0, [event[1] for event in run.came_about if event[0] == 0])

    def test_just_three_hundred_steps(self):
        run, ending = start(LOOP.format(TEN))
        self.assertEqual((ending, run.steps), ("ended", 300))
        self.assertEqual(list(run.came_about)[-1], (0, 0, (), (2, 5)))

    def test_one_more(self):
        run, ending = start(LOOP.format(TEN.replace("5", "(new 5)")))
        self.assertEqual((ending, run.steps), ("long", 300))
        flows = [event[1] for event in run.came_about if event[0] == 0]
        self.assertIn(12, flows)
        for label in (5, 11, 13, 14, 15, 0):
            self.assertNotIn(label, flows[flows.index(12):])

    def test_wrong_at_the_last_step(self):
        run, ending = start(LOOP.format(TEN.replace("(new 5)", "(fst 5)")))
        self.assertEqual((ending, run.steps), ("wrong", 300))

    def test_the_last_steps_before_it_is_long(self):
        for part, steps in ((TEN.replace("(new 5)", "5"), 299), ("1", 291)):
            run, ending = start(LOOP.format(part))
            self.assertEqual((ending, run.steps), ("ended", steps))


class Events(unittest.TestCase):
    def test_the_example(self):
        self.assertEqual(events(EXAMPLE, 3), [
            ("flow", 1, (), (1, 1)),
            ("flow", 5, (), (1, 1)), ("flow", 6, (), (0, 0)), ("call", 4, (), (1, 1)),
            ("flow", 2, (4,), (0, 0)), ("flow", 4, (), (0, 0)),
            ("flow", 8, (), (1, 1)), ("flow", 9, (), (1, 9)), ("call", 7, (), (1, 1)),
            ("flow", 2, (7,), (1, 9)), ("flow", 7, (), (1, 9)),
            ("flow", 3, (), (2, 3)), ("flow", 0, (), (2, 3)),
        ])

    def test_each_once(self):
        found = events("((fun x (x x)) (fun y (y y)))")
        self.assertEqual(len(found), len(set(found)))
        self.assertEqual([event for event in found if event[0] == "call"], [
            ("call", 0, (), (1, 1)), ("call", 2, (0,), (1, 5)), ("call", 6, (2, 0), (1, 5)),
            ("call", 6, (6, 2, 0), (1, 5)), ("call", 6, (6, 6, 2), (1, 5)), ("call", 6, (6, 6, 6), (1, 5))])

    def test_a_strings_latest_site_is_first(self):
        text = "(let a (fun x x) (let b (fun y (a y)) (let c (fun z (b z)) (let d (fun w (c w)) (d 1)))))"
        strings = {label: string for event, label, string, value in events(text) if event == "flow"}
        self.assertEqual([strings[label] for label in (2, 7, 12, 17, 18)],
                         [(5, 10, 15), (10, 15, 18), (15, 18), (18,), ()])

    def test_a_function_is_run_in_the_string_of_its_call_not_of_its_making(self):
        text = "(let mk (fun a (fun b a)) ((mk 1) 2))"
        self.assertEqual([one for one in events(text) if one[1] in (2, 3)],
                         [("flow", 2, (5,), (1, 2)), ("flow", 3, (4,), (0, 0))])

    def test_left_before_right(self):
        self.assertEqual([one[1] for one in events("(pair (add 1 2) (set (new 3) 4))")], [2, 3, 1, 6, 5, 7, 4, 0])


class MadePrograms(unittest.TestCase):
    def compare(self, text, given):
        slow = SlowRun(Plain(text), given)
        run, ending = start(text, given)
        self.assertEqual((ending, run.steps), (slow.ending, slow.steps))
        self.assertEqual(events(text, given), slow.events)
        return ending

    def test_made_programs(self):
        maker = Maker(30)
        endings = {"ended": 0, "wrong": 0, "long": 0}
        for turn in range(600):
            text = maker.program() if turn % 2 else maker.many_calls()
            for given in (0, 7):
                with self.subTest(text=text, given=given):
                    endings[self.compare(text, given)] += 1
        self.assertGreater(min(endings.values()), 10)


if __name__ == "__main__":
    unittest.main()
