"""The document gone through plainly, as a second way to the same answers: programs, tables and runs."""

FORMS = {
    "fun": 1, "let": 2, "if": 3, "pair": 2, "fst": 1,
    "snd": 1, "new": 1, "get": 1, "set": 2, "add": 2,
}
NUMBER = (0, 0, ())


class Plain:
    """A program's nodes, from a text that is known to be right."""

    def __init__(self, text):
        self.words = text.replace("(", " ( ").replace(")", " ) ").split()
        self.kinds, self.parts, self.binder, self.above, self.leaves = [], [], [], [], {}
        self.read({}, [])

    def read(self, scope, above):
        label = len(self.kinds)
        self.kinds.append(None)
        self.parts.append([])
        self.binder.append(None)
        self.above.append(above)
        word = self.words.pop(0)
        if word != "(":
            self.kinds[label] = "number" if word.isdigit() or word == "in" else "name"
            self.binder[label] = scope.get(word)
            self.leaves[label] = word
            return label
        kind = self.words.pop(0) if self.words[0] in FORMS else "call"
        self.kinds[label] = kind
        bound = dict(scope)
        if kind in ("fun", "let"):
            bound[self.words.pop(0)] = label
        parts = FORMS.get(kind, 2)
        for part in range(parts):
            seen = bound if part == parts - 1 else scope
            self.parts[label].append(self.read(seen, above + [label]))
        self.words.pop(0)
        return label

    def home(self, label):
        return max([one for one in self.above[label] if self.kinds[one] == "fun"], default=None)

    def bound_outside(self, fun):
        inside = [n for n in range(len(self.kinds)) if fun in self.above[n]]
        return {self.binder[n] for n in inside if self.kinds[n] == "name"
                and self.binder[n] != fun and fun not in self.above[self.binder[n]]}


class Slow:
    """A table; places are told as words, as in ("node", 3). Some bodies may count as come to from the beginning."""

    def __init__(self, plain, most, come_to=()):
        self.plain, self.most = plain, most
        self.facts, self.bodies = set(), {(fun, ()) for fun in come_to}
        size = -1
        while size != len(self.facts) + len(self.bodies):
            size = len(self.facts) + len(self.bodies)
            self.go_through()

    def at(self, place, label, string):
        return [fact[3] for fact in self.facts if fact[:3] == (place, label, string)]

    def move(self, source, target):
        self.facts.update([target + (sort,) for sort in self.at(*source)])

    def go_through(self):
        for label in range(len(self.plain.kinds)):
            home = self.plain.home(label)
            strings = [()] if home is None else [s for f, s in self.bodies if f == home]
            for string in strings:
                self.meet(label, string)

    def meet(self, label, here):
        kind, parts = self.plain.kinds[label], self.plain.parts[label]
        node = ("node", label, here)
        part = [("node", one, here) for one in parts]
        made = {"fun": 1, "pair": 2, "new": 3}
        if kind in made:
            self.facts.add(node + ((made[kind], label, here),))
        if kind in ("number", "add"):
            self.facts.add(node + (NUMBER,))
        if kind == "name":
            self.move(("binder", self.plain.binder[label], here), node)
        if kind == "let":
            self.move(part[0], ("binder", label, here))
        if kind in ("let", "if", "set"):
            self.move(part[1], node)
        if kind == "if":
            self.move(part[2], node)
        if kind == "pair":
            self.move(part[0], ("first", label, here))
            self.move(part[1], ("second", label, here))
        if kind == "new":
            self.move(part[0], ("contents", label, here))
        if kind in ("call", "fst", "snd", "get", "set"):
            for sort in self.at(*part[0]):
                self.use(kind, node, part, sort)

    def use(self, kind, node, part, sort):
        what, maker, made = sort
        if (kind, what) == ("call", 1):
            inner = ((node[1],) + node[2])[:self.most]
            self.bodies.add((maker, inner))
            self.move(part[1], ("binder", maker, inner))
            for binder in self.plain.bound_outside(maker):
                self.move(("binder", binder, made), ("binder", binder, inner))
            self.move(("node", self.plain.parts[maker][0], inner), node)
        if (kind, what) == ("fst", 2):
            self.move(("first", maker, made), node)
        if (kind, what) == ("snd", 2):
            self.move(("second", maker, made), node)
        if (kind, what) == ("get", 3):
            self.move(("contents", maker, made), node)
        if (kind, what) == ("set", 3):
            self.move(part[1], ("contents", maker, made))


def without_strings(plain):
    return Slow(plain, 0, [label for label, kind in enumerate(plain.kinds) if kind == "fun"])


def arrows_of(slow):
    plain = slow.plain
    sites = {plain.parts[n][0]: n for n, kind in enumerate(plain.kinds) if kind == "call"}
    return {(sites[label], sort[1]) for place, label, string, sort in slow.facts
            if place == "node" and label in sites and sort[0] == 1}


class Still(Exception):
    """The run is wrong or long; why is told as a word."""


class SlowRun:
    """A run, node within node. A value is (what it is, label, what it holds)."""

    def __init__(self, plain, given):
        self.plain, self.given = plain, given
        self.steps, self.events, self.ending, self.value = 0, [], "ended", None
        try:
            self.value = self.run(0, (), {})
        except Still as why:
            self.ending = str(why)

    def come_about(self, event):
        if event not in self.events:
            self.events.append(event)

    def run(self, label, string, bound):
        if self.steps == 300:
            raise Still("long")
        self.steps += 1
        kind, parts = self.plain.kinds[label], self.plain.parts[label]
        ahead = {"fun": 0, "let": 1, "if": 1}.get(kind, len(parts))
        got = [self.run(part, string, bound) for part in parts[:ahead]]
        if kind in ("call", "let", "if"):
            value = self.run(*self.last(kind, label, string, bound, got))
        else:
            value = self.make(kind, label, bound, got)
        self.come_about(("flow", label, string, value[:2]))
        return value

    def last(self, kind, label, string, bound, got):
        """What a call, a let or an if runs last, in which string, with what bound."""
        parts = self.plain.parts[label]
        if kind == "let":
            return parts[1], string, {**bound, label: got[0]}
        if kind == "if":
            return parts[1 if self.held(got[0], 0) == 0 else 2], string, bound
        kept = self.held(got[0], 1)
        fun = got[0][1]
        self.come_about(("call", label, string, (1, fun)))
        return self.plain.parts[fun][0], ((label,) + string)[:3], {**kept, fun: got[1]}

    def held(self, value, what):
        if value[0] != what:
            raise Still("wrong")
        return value[2]

    def make(self, kind, label, bound, got):
        if kind == "number":
            word = self.plain.leaves[label]
            return (0, 0, self.given if word == "in" else int(word))
        if kind == "name":
            return bound[self.plain.binder[label]]
        if kind == "add":
            return (0, 0, (self.held(got[0], 0) + self.held(got[1], 0)) % 100)
        if kind in ("fst", "snd"):
            return self.held(got[0], 2)[0 if kind == "fst" else 1]
        if kind == "get":
            return self.held(got[0], 3)[0]
        if kind == "set":
            self.held(got[0], 3)[0] = got[1]
            return got[1]
        return {"fun": (1, label, bound), "pair": (2, label, got), "new": (3, label, got)}[kind]
