"""Made programs, held against the document's rules gone through plainly, over and over, until nothing is new."""

import unittest

from tests.helper import FULL, LARGE_BY_NONE, LARGE_BY_ONE, OVERFULL, ask
from tests.maker import Maker
from tests.oracle import Plain, Slow, arrows_of, without_strings


def with_count(things):
    flat = [len(things)]
    for one in things:
        flat.extend(one)
    return flat


def ordered(sorts):
    return sorted(sorts, key=lambda sort: (sort[0] != 0, sort[1:]))


def dead_nodes(slow):
    come_to = {fun for fun, string in slow.bodies} | {None}
    return [label for label in range(len(slow.plain.kinds)) if slow.plain.home(label) not in come_to]


def sorts_anywhere(slow, place, label):
    return {fact[3][:2] for fact in slow.facts if fact[:2] == (place, label)}


# Tells all places where the tables part by what promise 9 calls them, and takes the first.
def first_parting(coarse, fine):
    order = {"node": (0, 0), "binder": (1, 0), "first": (2, 0), "second": (2, 1), "contents": (3, 0)}
    told = {"node": 0, "binder": 1, "first": 2, "second": 3, "contents": 4}
    unlike = [(order[place][0], label, order[place][1], place) for place in order
              for label in range(len(coarse.plain.kinds))
              if sorts_anywhere(coarse, place, label) != sorts_anywhere(fine, place, label)]
    if not unlike:
        return [0]
    first = min(unlike)
    return [1, told[first[3]], first[1]]


class MadePrograms(unittest.TestCase):
    def setUp(self):
        self.partings = []

    def compare(self, text, most):
        plain = Plain(text)
        slow = Slow(plain, most)
        total = len(slow.facts) + len(slow.bodies)
        if total > 400:
            self.assertEqual(ask(text, most, ("facts",), ("arrows",)), [[-7], [-7]])
            return total
        self.assertEqual(ask(text, most, ("facts",)), [[total, len(slow.bodies)]])
        for label in range(len(plain.kinds)):
            self.compare_node(text, most, slow, label)
        self.assertEqual(ask(text, most, ("arrows",)), [with_count(sorted(arrows_of(slow)))])
        self.assertEqual(ask(text, most, ("dead",)), [with_count([[label] for label in dead_nodes(slow)])])
        return total

    def compare_node(self, text, most, slow, label):
        facts = [fact for fact in slow.facts if fact[:2] == ("node", label)]
        sorts = ordered({fact[3][:2] for fact in facts})
        self.assertEqual(ask(text, most, ("values", label)), [with_count(sorts)])
        for string in sorted({fact[2] for fact in facts} | {()}):
            told = [s[:2] + (len(s[2]),) + s[2] for s in ordered(slow.at("node", label, string))]
            self.assertEqual(ask(text, most, ("at", label, list(string))), [with_count(told)])
        if slow.plain.kinds[label] == "fun":
            told = [(len(s),) + s for s in sorted([s for f, s in slow.bodies if f == label])]
            self.assertEqual(ask(text, most, ("bodies", label)), [with_count(told)])
        if slow.plain.kinds[label] in ("fun", "let"):
            told = ordered(sorts_anywhere(slow, "binder", label))
            self.assertEqual(ask(text, most, ("name", label)), [with_count(told)])

    def compare_all(self, text):
        with self.subTest(text=text):
            self.compare_tables(text)
            return [self.compare(text, most) for most in (0, 1, 2)]

    def compare_tables(self, text):
        plain = Plain(text)
        slow = [Slow(plain, most) for most in (0, 1, 2)]
        large = [len(one.facts) + len(one.bodies) > 400 for one in slow]
        rungs = [len(arrows_of(one)) for one in [without_strings(plain)] + slow]
        told = ask(text, 1, ("ladder",), ("parts", 1), ("parts", 2))
        self.assertEqual(told[0], [-7] if any(large) else rungs)
        for k in (1, 2):
            parting = first_parting(slow[k - 1], slow[k])
            self.assertEqual(told[k], [-7] if large[k - 1] or large[k] else parting)
        self.partings.append(tuple(told[1][:2]) + tuple(told[2][:2]))

    def test_made_programs(self):
        maker = Maker(20)
        for turn in range(60):
            self.compare_all(maker.program())

    def test_programs_with_many_calls(self):
        maker = Maker(21)
        largest = max([max(self.compare_all(maker.many_calls())) for turn in range(60)])
        self.assertGreater(largest, 100)

    def test_programs_whose_tables_part(self):
        maker = Maker(22)
        for turn in range(150):
            text = maker.hand_on()
            with self.subTest(text=text):
                self.compare_tables(text)
        self.assertEqual(set(self.partings), {(0, 0), (0, 1, 0), (1, 0, 0), (1, 1, 0), (1, 4, 0)})

    def test_tables_that_are_too_large(self):
        self.compare_tables(OVERFULL)
        self.compare_tables(LARGE_BY_NONE)
        self.compare_tables(LARGE_BY_ONE)

    def test_the_limit(self):
        self.assertEqual(self.compare(FULL, 2), 400)
        self.assertEqual(self.compare(OVERFULL, 2), 401)


if __name__ == "__main__":
    unittest.main()
