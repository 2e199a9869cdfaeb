"""Made programs, the same ones from the same seed."""

import random

from tests.helper import run
from tests.oracle import FORMS


class Maker:
    """Programs in which most parts are of the kind that is needed where they stand."""

    def __init__(self, seed):
        self.random = random.Random(seed)

    def program(self):
        while True:
            self.left = self.random.randint(12, 40)
            text = self.make([], 0, "any")
            if run(("program", text))[0][0] > 8:
                return text

    def many_calls(self):
        while True:
            first, second, last = self.dense(["x"], 4), self.dense(["f", "y"], 3), self.dense(["f", "g"], 3)
            text = f"(let f (fun x {first}) (let g (fun y {second}) {last}))"
            if run(("program", text))[0][0] > 13:
                return text

    def hand_on(self):
        """Two functions that hand on what they are given, called with unlike things."""
        first = self.random.choice(["x", "(pair x x)", "(new x)", "(fun u x)", "(if in x 1)", "(get (new x))"])
        second = self.random.choice([
            "(f y)", "((fst y) (snd y))", "((fst y) (snd y))", "(add 0 (set (fst y) (snd y)))", "(f (f y))",
            "(snd (f y))", "(get (f y))", "((f y) 1)"])
        things = ["1", "(fun a 1)", "(fun b b)", "(pair r 1)", "(pair r f)", "(pair (fun a 1) 2)", "(pair (fun b 3) f)"]
        one, other = [f"({self.random.choice('fggg')} {self.random.choice(things)})" for turn in (1, 2)]
        text = f"(let f (fun x {first}) (let g (fun y {second}) (let r (new 0) (pair {one} {other}))))"
        # Few have too many nodes.
        return text if run(("program", text)) != [[-1]] else self.hand_on()

    def dense(self, scope, depth):
        if depth == 0 or self.random.random() < 0.25:
            return self.random.choice(scope)
        kind = self.random.choice(["call"] * 6 + list(FORMS))
        if kind == "call":
            return f"({self.dense(scope, depth - 1)} {self.dense(scope, depth - 1)})"
        inner, head = scope, [kind]
        if kind in ("fun", "let"):
            head = [kind, self.random.choice("xyz")]
            inner = scope + head[1:]
        parts = [self.dense(scope, depth - 1) for turn in range(FORMS[kind] - 1)]
        return "(" + " ".join(head + parts + [self.dense(inner, depth - 1)]) + ")"

    def make(self, scope, depth, want):
        self.left -= 1
        if depth == 8 or self.left < 1 or (depth > 2 and self.random.random() < 0.35):
            return self.leaf(scope, want)
        choices = {"fun": ["fun"] * 4, "pair": ["pair"] * 4, "new": ["new"] * 4}.get(want, [])
        if depth < 4:
            choices = choices + ["let"] * 8
        kind = self.random.choice(choices + ["call"] * 5 + [
            "let", "if", "fst", "snd", "get", "set", "pair", "fun", "new", "add"])
        return "(" + " ".join(self.parts(kind, scope, depth + 1, want)) + ")"

    def parts(self, kind, scope, depth, want):
        some = self.random.choice(["fun", "fun", "fun", "pair", "new", "any"])
        if kind == "call":
            return [self.make(scope, depth, "fun"), self.make(scope, depth, some)]
        if kind == "fun":
            name = self.random.choice("abcdefgh")
            return [kind, name, self.make(scope + [(name, some)], depth, "any")]
        if kind == "let":
            name = self.random.choice("abcdefgh")
            own = self.make(scope, depth, some)
            return [kind, name, own, self.make(scope + [(name, some)], depth, want)]
        wanted = {
            "if": ["any", want, want], "pair": [some, "fun"], "fst": ["pair"], "snd": ["pair"],
            "new": [some], "get": ["new"], "set": ["new", some], "add": ["any", "any"],
        }
        return [kind] + [self.make(scope, depth, one) for one in wanted[kind]]

    def leaf(self, scope, want):
        fitting = [name for name, kind in scope if want in (kind, "any")]
        names = fitting or [name for name, kind in scope]
        if names and self.random.random() < 0.95:
            return self.random.choice(names)
        return self.random.choice(["in", "0", "7", "42"])
