"""Made programs, held against the document's rules gone through plainly, over and over, until nothing is new."""

import random
import unittest

from tests.helper import FULL, OVERFULL, ask, run

FORMS = {
    "fun": 1, "let": 2, "if": 3, "pair": 2, "fst": 1,
    "snd": 1, "new": 1, "get": 1, "set": 2, "add": 2,
}
NUMBER = (0, 0, ())


class Plain:
    """A program's nodes, from a text that is known to be right."""

    def __init__(self, text):
        self.words = text.replace("(", " ( ").replace(")", " ) ").split()
        self.kinds, self.parts, self.binder, self.above = [], [], [], []
        self.read({}, [])

    def read(self, scope, above):
        label = len(self.kinds)
        self.kinds.append(None)
        self.parts.append([])
        self.binder.append(None)
        self.above.append(above)
        word = self.words.pop(0)
        if word != "(":
            self.kinds[label] = "number" if word.isdigit() or word == "in" else "name"
            self.binder[label] = scope.get(word)
            return label
        kind = self.words.pop(0) if self.words[0] in FORMS else "call"
        self.kinds[label] = kind
        bound = dict(scope)
        if kind in ("fun", "let"):
            bound[self.words.pop(0)] = label
        parts = FORMS.get(kind, 2)
        for part in range(parts):
            seen = bound if part == parts - 1 else scope
            self.parts[label].append(self.read(seen, above + [label]))
        self.words.pop(0)
        return label

    def home(self, label):
        return max([one for one in self.above[label] if self.kinds[one] == "fun"], default=None)

    def bound_outside(self, fun):
        inside = [n for n in range(len(self.kinds)) if fun in self.above[n]]
        return {self.binder[n] for n in inside if self.kinds[n] == "name"
                and self.binder[n] != fun and fun not in self.above[self.binder[n]]}


class Slow:
    """A table; places are told as words, as in ("node", 3)."""

    def __init__(self, plain, most):
        self.plain, self.most = plain, most
        self.facts, self.bodies = set(), set()
        size = -1
        while size != len(self.facts) + len(self.bodies):
            size = len(self.facts) + len(self.bodies)
            self.go_through()

    def at(self, place, label, string):
        return [fact[3] for fact in self.facts if fact[:3] == (place, label, string)]

    def move(self, source, target):
        self.facts.update([target + (sort,) for sort in self.at(*source)])

    def go_through(self):
        for label in range(len(self.plain.kinds)):
            home = self.plain.home(label)
            strings = [()] if home is None else [s for f, s in self.bodies if f == home]
            for string in strings:
                self.meet(label, string)

    def meet(self, label, here):
        kind, parts = self.plain.kinds[label], self.plain.parts[label]
        node = ("node", label, here)
        part = [("node", one, here) for one in parts]
        made = {"fun": 1, "pair": 2, "new": 3}
        if kind in made:
            self.facts.add(node + ((made[kind], label, here),))
        if kind in ("number", "add"):
            self.facts.add(node + (NUMBER,))
        if kind == "name":
            self.move(("binder", self.plain.binder[label], here), node)
        if kind == "let":
            self.move(part[0], ("binder", label, here))
        if kind in ("let", "if", "set"):
            self.move(part[1], node)
        if kind == "if":
            self.move(part[2], node)
        if kind == "pair":
            self.move(part[0], ("first", label, here))
            self.move(part[1], ("second", label, here))
        if kind == "new":
            self.move(part[0], ("contents", label, here))
        if kind in ("call", "fst", "snd", "get", "set"):
            for sort in self.at(*part[0]):
                self.use(kind, node, part, sort)

    def use(self, kind, node, part, sort):
        what, maker, made = sort
        if (kind, what) == ("call", 1):
            inner = ((node[1],) + node[2])[:self.most]
            self.bodies.add((maker, inner))
            self.move(part[1], ("binder", maker, inner))
            for binder in self.plain.bound_outside(maker):
                self.move(("binder", binder, made), ("binder", binder, inner))
            self.move(("node", self.plain.parts[maker][0], inner), node)
        if (kind, what) == ("fst", 2):
            self.move(("first", maker, made), node)
        if (kind, what) == ("snd", 2):
            self.move(("second", maker, made), node)
        if (kind, what) == ("get", 3):
            self.move(("contents", maker, made), node)
        if (kind, what) == ("set", 3):
            self.move(part[1], ("contents", maker, made))


class Maker:
    """Programs in which most parts are of the kind that is needed where they stand."""

    def __init__(self, seed):
        self.random = random.Random(seed)

    def program(self):
        while True:
            self.left = self.random.randint(12, 40)
            text = self.make([], 0, "any")
            if run(("program", text))[0][0] > 8:
                return text

    def many_calls(self):
        while True:
            first, second, last = self.dense(["x"], 4), self.dense(["f", "y"], 3), self.dense(["f", "g"], 3)
            text = f"(let f (fun x {first}) (let g (fun y {second}) {last}))"
            if run(("program", text))[0][0] > 13:
                return text

    def dense(self, scope, depth):
        if depth == 0 or self.random.random() < 0.25:
            return self.random.choice(scope)
        kind = self.random.choice(["call"] * 6 + list(FORMS))
        if kind == "call":
            return f"({self.dense(scope, depth - 1)} {self.dense(scope, depth - 1)})"
        inner, head = scope, [kind]
        if kind in ("fun", "let"):
            head = [kind, self.random.choice("xyz")]
            inner = scope + head[1:]
        parts = [self.dense(scope, depth - 1) for turn in range(FORMS[kind] - 1)]
        return "(" + " ".join(head + parts + [self.dense(inner, depth - 1)]) + ")"

    def make(self, scope, depth, want):
        self.left -= 1
        if depth == 8 or self.left < 1 or (depth > 2 and self.random.random() < 0.35):
            return self.leaf(scope, want)
        choices = {"fun": ["fun"] * 4, "pair": ["pair"] * 4, "new": ["new"] * 4}.get(want, [])
        if depth < 4:
            choices = choices + ["let"] * 8
        kind = self.random.choice(choices + ["call"] * 5 + [
            "let", "if", "fst", "snd", "get", "set", "pair", "fun", "new", "add"])
        return "(" + " ".join(self.parts(kind, scope, depth + 1, want)) + ")"

    def parts(self, kind, scope, depth, want):
        some = self.random.choice(["fun", "fun", "fun", "pair", "new", "any"])
        if kind == "call":
            return [self.make(scope, depth, "fun"), self.make(scope, depth, some)]
        if kind == "fun":
            name = self.random.choice("abcdefgh")
            return [kind, name, self.make(scope + [(name, some)], depth, "any")]
        if kind == "let":
            name = self.random.choice("abcdefgh")
            own = self.make(scope, depth, some)
            return [kind, name, own, self.make(scope + [(name, some)], depth, want)]
        wanted = {
            "if": ["any", want, want], "pair": [some, "fun"], "fst": ["pair"], "snd": ["pair"],
            "new": [some], "get": ["new"], "set": ["new", some], "add": ["any", "any"],
        }
        return [kind] + [self.make(scope, depth, one) for one in wanted[kind]]

    def leaf(self, scope, want):
        fitting = [name for name, kind in scope if want in (kind, "any")]
        names = fitting or [name for name, kind in scope]
        if names and self.random.random() < 0.95:
            return self.random.choice(names)
        return self.random.choice(["in", "0", "7", "42"])


def with_count(things):
    flat = [len(things)]
    for one in things:
        flat.extend(one)
    return flat


def arrows_of(slow):
    plain = slow.plain
    sites = {plain.parts[n][0]: n for n, kind in enumerate(plain.kinds) if kind == "call"}
    return {(sites[label], sort[1]) for place, label, string, sort in slow.facts
            if place == "node" and label in sites and sort[0] == 1}


def ordered(sorts):
    return sorted(sorts, key=lambda sort: (sort[0] != 0, sort[1:]))


class MadePrograms(unittest.TestCase):
    def compare(self, text, most):
        plain = Plain(text)
        slow = Slow(plain, most)
        total = len(slow.facts) + len(slow.bodies)
        if total > 400:
            self.assertEqual(ask(text, most, ("facts",), ("arrows",)), [[-7], [-7]])
            return total
        self.assertEqual(ask(text, most, ("facts",)), [[total, len(slow.bodies)]])
        for label in range(len(plain.kinds)):
            self.compare_node(text, most, slow, label)
        self.assertEqual(ask(text, most, ("arrows",)), [with_count(sorted(arrows_of(slow)))])
        return total

    def compare_node(self, text, most, slow, label):
        facts = [fact for fact in slow.facts if fact[:2] == ("node", label)]
        sorts = ordered({fact[3][:2] for fact in facts})
        self.assertEqual(ask(text, most, ("values", label)), [with_count(sorts)])
        for string in sorted({fact[2] for fact in facts} | {()}):
            told = [s[:2] + (len(s[2]),) + s[2] for s in ordered(slow.at("node", label, string))]
            self.assertEqual(ask(text, most, ("at", label, list(string))), [with_count(told)])
        if slow.plain.kinds[label] == "fun":
            told = [(len(s),) + s for s in sorted([s for f, s in slow.bodies if f == label])]
            self.assertEqual(ask(text, most, ("bodies", label)), [with_count(told)])

    def compare_all(self, text):
        with self.subTest(text=text):
            return [self.compare(text, most) for most in (0, 1, 2)]

    def test_made_programs(self):
        maker = Maker(20)
        for turn in range(60):
            self.compare_all(maker.program())

    def test_programs_with_many_calls(self):
        maker = Maker(21)
        largest = max([max(self.compare_all(maker.many_calls())) for turn in range(60)])
        self.assertGreater(largest, 100)

    def test_the_limit(self):
        self.assertEqual(self.compare(FULL, 2), 400)
        self.assertEqual(self.compare(OVERFULL, 2), 401)


if __name__ == "__main__":
    unittest.main()
