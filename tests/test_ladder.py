"""Promise 8: ladder."""

import unittest

from callstrings.compare import find_arrows
from callstrings.programs import read_program
from callstrings.rules import grow_table_without_strings
from tests.helper import EXAMPLE, FULL, LARGE_BY_NONE, LARGE_BY_ONE, OVERFULL, ask, run
from tests.oracle import Plain, arrows_of, without_strings


def ladder(text):
    return run(("program", text), ("ladder",))[1]


class Ladder(unittest.TestCase):
    def test_the_example(self):
        self.assertEqual(ladder(EXAMPLE), [2, 2, 2, 2])

    def test_at_the_beginning(self):
        self.assertEqual(run(("ladder",)), [[0, 0, 0, 0]])

    def test_one_site_parts_arrows(self):
        text = "(let id (fun x x) (pair ((id (fun a 1)) 1) ((id (fun b 2)) 1)))"
        self.assertEqual(ladder(text), [6, 6, 4, 4])

    def test_two_sites_part_arrows(self):
        text = "(let id (fun x x) (let ap (fun y (id y)) (pair ((ap (fun a 1)) 1) ((ap (fun b 2)) 1))))"
        self.assertEqual(ladder(text), [7, 7, 7, 5])

    def test_four_unlike_numbers(self):
        # One site keeps the function of c apart from the others, two keep all apart; the body of w is never come to.
        text = ("(let id (fun x x) (let ap (fun y (id y))"
                " ((ap (fun a 1)) ((ap (fun b 1)) ((id (fun c 1)) (fun w (id w)))))))")
        self.assertEqual(ladder(text), [14, 13, 9, 7])
        self.assertEqual([ask(text, most, ("arrows",))[0][0] for most in (0, 1, 2)], [13, 9, 7])

    def test_a_body_that_is_never_come_to(self):
        self.assertEqual(ladder("(fun y ((fun x x) 1))"), [1, 0, 0, 0])
        self.assertEqual(ladder("(fun y (let f (fun x x) (pair (f 1) (f 2))))"), [2, 0, 0, 0])
        self.assertEqual(ladder("(let f (fun x x) (fun y (f 1)))"), [1, 0, 0, 0])
        self.assertEqual(ladder("(fun a (fun b ((fun c c) ((fun d d) 1))))"), [2, 0, 0, 0])

    def test_without_strings_nothing_is_bound_to_names_that_no_call_binds(self):
        self.assertEqual(ladder("(fun x (x 1))"), [0, 0, 0, 0])
        self.assertEqual(ladder("(fun x (let y x (y (fun z z))))"), [0, 0, 0, 0])

    def test_what_a_dead_body_calls_is_bound_without_strings(self):
        # The dead body hands its function to f, so that f's own call has an arrow more.
        text = "(let f (fun x (x 1)) (pair (fun y (f (fun z z))) (f (fun w w))))"
        self.assertEqual(ladder(text), [4, 2, 2, 2])

    def test_one_table_that_is_too_large(self):
        for text, large in ((LARGE_BY_NONE, 0), (LARGE_BY_ONE, 1), (OVERFULL, 2)):
            for most in (0, 1, 2):
                facts, told = ask(text, most, ("facts",), ("ladder",))
                self.assertEqual(facts == [-7], most == large)
                self.assertEqual(told, [-7])

    def test_just_not_too_large(self):
        for most in (0, 1, 2):
            self.assertEqual(ask(FULL, most, ("ladder",)), [[5, 5, 5, 5]])

    def test_the_table_without_strings_may_have_any_number_of_facts(self):
        slow = without_strings(Plain(LARGE_BY_NONE))
        self.assertGreater(len(slow.facts), 400)
        table = grow_table_without_strings(read_program(list(LARGE_BY_NONE.encode("ascii"))))
        self.assertEqual(table.sort_facts, len(slow.facts))
        self.assertEqual(find_arrows(table), sorted(arrows_of(slow)))

    def test_strings_stay_as_they_were(self):
        for most in (0, 1, 2):
            for text in (EXAMPLE, OVERFULL):
                before, told, after, last = ask(text, most, ("facts",), ("ladder",), ("facts",), ("strings", 1))
                self.assertEqual(before, after)
                self.assertEqual(last, [most])


if __name__ == "__main__":
    unittest.main()
