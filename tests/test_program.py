"""Promise 1: program."""

import random
import unittest

from tests.helper import EXAMPLE, ask, run

WORDS = ["fun", "let", "if", "pair", "fst", "snd", "new", "get", "set", "add"]


def nodes(text):
    return run(("program", text))[0]


def nested(word, times):
    return f"({word} " * times + "0" + ")" * times


def tree(leaves):
    if leaves == 1:
        return "0"
    return f"(add {tree(leaves // 2)} {tree(leaves - leaves // 2)})"


class Accepted(unittest.TestCase):
    def assert_nodes(self, text, count):
        self.assertEqual(nodes(text), [count], text)

    def test_each_kind_of_expression(self):
        self.assert_nodes("7", 1)
        self.assert_nodes("in", 1)
        self.assert_nodes("(fun x x)", 2)
        self.assert_nodes("(let x 1 x)", 3)
        self.assert_nodes("(1 2)", 3)
        self.assert_nodes("(if 0 1 2)", 4)
        self.assert_nodes("(pair 0 1)", 3)
        self.assert_nodes("(fst 0)", 2)
        self.assert_nodes("(snd 0)", 2)
        self.assert_nodes("(new 0)", 2)
        self.assert_nodes("(get 0)", 2)
        self.assert_nodes("(set 0 1)", 3)
        self.assert_nodes("(add 0 1)", 3)
        self.assert_nodes(EXAMPLE, 11)

    def test_numbers(self):
        for number in range(100):
            self.assert_nodes(str(number), 1)

    def test_names(self):
        for name in ["a", "z", "xy", "abc", "abcd", "call", "name", "body", "funx", "le", "iff", "ini", "i", "n"]:
            self.assert_nodes(f"(fun {name} {name})", 2)
            self.assert_nodes(f"(let {name} 1 ({name} {name}))", 5)

    def test_in_is_the_input(self):
        self.assert_nodes("(in in)", 3)
        self.assert_nodes("(fun x (pair in x))", 4)

    def test_scopes(self):
        self.assert_nodes("(let x 1 (let x x x))", 5)
        self.assert_nodes("(fun x (fun y (x y)))", 5)
        self.assert_nodes("(fun x (pair (fun x x) x))", 5)

    def test_thirty_nodes(self):
        self.assert_nodes(f"(new {tree(15)})", 30)

    def test_eight_around(self):
        self.assert_nodes(nested("new", 8), 9)
        self.assert_nodes("(fun a " * 8 + "a" + ")" * 8, 9)
        self.assert_nodes("(" * 8 + "1" + " 2)" * 8, 17)


class Refused(unittest.TestCase):
    def assert_refused(self, text):
        self.assertEqual(nodes(text), [-1], text)

    def test_numbers(self):
        for text in ["00", "01", "007", "099", "100", "101", "999", "1000", "-1", "+1", "1a", "0x1", "1.0"]:
            self.assert_refused(text)
            self.assert_refused(f"(new {text})")

    def test_names_that_are_too_long(self):
        self.assert_refused("(fun abcde abcde)")
        self.assert_refused("(fun abcde 1)")
        self.assert_refused("(let abcde 1 2)")
        self.assert_refused("(fun abcd abcde)")

    def test_names_with_other_signs(self):
        for name in ["A", "aB", "a1", "1a", "a_", "", "3"]:
            self.assert_refused(f"(fun {name} 1)")
            self.assert_refused(f"(let {name} 1 2)")

    def test_words_that_are_no_names(self):
        for word in WORDS:
            self.assert_refused(word)
            self.assert_refused(f"(fun {word} 1)")
            self.assert_refused(f"(let {word} 1 2)")
            self.assert_refused(f"(fun {word} {word})")
            self.assert_refused(f"(1 {word})")
            self.assert_refused(f"({word})")
            self.assert_refused(f"({word} )")

    def test_in_is_no_binder(self):
        self.assert_refused("(fun in 1)")
        self.assert_refused("(fun in in)")
        self.assert_refused("(let in 1 2)")

    def test_names_that_are_not_bound(self):
        for text in ["x", "(fun x y)", "(let x x 1)", "(let f (fun x (f x)) f)", "(pair (fun x x) x)",
                     "(pair (let x 1 x) x)", "((fun x 1) x)", "(let x (fun y y) y)"]:
            self.assert_refused(text)

    def test_how_many_parts(self):
        for text in ["()", "(1)", "(1 2 3)", "(fun x)", "(fun x 1 2)", "(let x 1)", "(let x 1 2 3)", "(if 1 2)",
                     "(if 1 2 3 4)", "(pair 1)", "(pair 1 2 3)", "(fst)", "(fst 1 2)", "(snd 1 2)", "(new)",
                     "(new 1 2)", "(get 1 2)", "(set 1)", "(set 1 2 3)", "(add 1)", "(add 1 2 3)", "((fun x x))",
                     "(fun)", "(let)", "(fun 1 2)", "(let (fun x x) 1 2)"]:
            self.assert_refused(text)

    def test_blanks(self):
        for text in ["(pair  1 2)", "(pair 1  2)", "( pair 1 2)", "(pair 1 2 )", "(pair 1(new 2))", "(pair(new 1) 2)",
                     "(pair (new 1)(new 2))", "(1  2)", "( 1 2)", "(1 2 )", "((new 1)2)", "((new 1)(new 2))",
                     "(fun  x x)", "(fun x  x)", "(funx x)", "(fun x(new x))", "(new(new 1))", "(let x 1(new x))",
                     "(pair\t1 2)", "(pair\n1 2)", "(pair 12)", "(fst1)"]:
            self.assert_refused(text)

    def test_before_and_behind(self):
        for text in ["(new 1)", "1", "in"]:
            for more in [" ", "\n", "(", ")", " 1", "0" * 3]:
                self.assert_refused(text + more)
            for more in [" ", "\n", "(", ")", "1 ", "(new "]:
                self.assert_refused(more + text)

    def test_unfinished(self):
        for size in range(len(EXAMPLE)):
            self.assert_refused(EXAMPLE[:size])

    def test_bytes(self):
        for byte in list(range(0, 40)) + list(range(42, 48)) + list(range(58, 256)):
            self.assertEqual(nodes([byte]), [-1])
            if byte < 97 or byte > 122:
                self.assertEqual(nodes(list(b"(fun ") + [byte] + list(b" 1)")), [-1])
                self.assertEqual(nodes(list(b"(new 1)") + [byte]), [-1])
        self.assertEqual(nodes([]), [-1])

    def test_thirty_one_nodes(self):
        self.assert_refused(tree(16))
        self.assert_refused(f"(new (new {tree(15)}))")

    def test_nine_around(self):
        self.assert_refused(nested("new", 9))
        self.assert_refused("(fun a " * 9 + "a" + ")" * 9)
        self.assert_refused("(" * 9 + "1" + " 2)" * 9)
        self.assert_refused("(let a 1 " * 8 + "(new a)" + ")" * 8)

    def test_two_thousand_bytes(self):
        for text in ["(", "(new ", "(fun x ", ")", " ", "0", "1", "a", "(1 "]:
            long = (text * 2000)[:2000]
            self.assert_refused(long)
        self.assert_refused(nested("new", 333))


class Kept(unittest.TestCase):
    def test_the_new_program_counts(self):
        told = run(("program", EXAMPLE), ("size",), ("program", "(new 1)"), ("size",), ("facts",))
        self.assertEqual(told, [[11], [11, 1, 2, 2], [2], [2, 1, 0, 0], [3, 0]])

    def test_a_refused_program_changes_nothing(self):
        asked = [("size",), ("facts",), ("values", 2), ("arrows",)]
        before = ask(EXAMPLE, 2, *asked)
        for text in ["", "x", tree(16), nested("new", 9), EXAMPLE + " "]:
            self.assertEqual(ask(EXAMPLE, 2, ("program", text), *asked), [[-1]] + before)

    def test_strings_stay(self):
        self.assertEqual(run(("strings", 2), ("program", "5"), ("strings", 0), ("program", "x"), ("strings", 1)),
                         [[1], [1], [2], [-1], [0]])


def end_of(text, place, scope, around):
    """Where the expression at this place ends and how many nodes it has; None if there is none."""
    if around > 8:
        return None
    if text[place:place + 1] != "(":
        stop = place
        while text[stop:stop + 1] not in ("", " ", "(", ")"):
            stop += 1
        word = text[place:stop]
        fits = word in scope or word in [str(n) for n in range(100)]
        return (stop, 1) if fits else None
    place += 1
    shapes = {"fun": "XL", "let": "XEL", "if": "EEE", "pair": "EE", "fst": "E", "snd": "E", "new": "E", "get": "E",
              "set": "EE", "add": "EE"}
    shape, first = "EE", True
    for word in WORDS:
        if text.startswith(word + " ", place):
            shape, first, place = shapes[word], False, place + len(word)
    inner, total = scope, 1
    for part in shape:
        if not first:
            if text[place:place + 1] != " ":
                return None
            place += 1
        first = False
        if part == "X":
            word = text[place:].split(" ")[0]
            small = all("a" <= sign <= "z" for sign in word)
            if not small or not 1 <= len(word) <= 4 or word in WORDS or word == "in":
                return None
            inner, place = scope | {word}, place + len(word)
            continue
        found = end_of(text, place, inner if part == "L" else scope, around + 1)
        if found is None:
            return None
        place, total = found[0], total + found[1]
    return (place + 1, total) if text[place:place + 1] == ")" else None


def expected(text):
    found = end_of(text, 0, {"in"}, 0)
    return [found[1]] if found and found[0] == len(text) and found[1] <= 30 else [-1]


class Spoilt(unittest.TestCase):
    """Texts a few signs away from programs."""

    def test_spoilt(self):
        chance = random.Random(5)
        texts = [EXAMPLE, "(let a (new 10) (set a (fun b (if b (get a) (snd (fst b))))))",
                 f"(new {tree(15)})", nested("get", 8), "((fun ab (add ab 99)) (pair in 0))"]
        signs = "()  ()01279abinx" + "Z"
        right = 0
        for _ in range(6000):
            text = chance.choice(texts)
            for _ in range(chance.choice([1, 1, 2, 3])):
                place = chance.randrange(len(text) + 1)
                cut = chance.choice([0, 0, 1, 1, 2])
                text = text[:place] + chance.choice(["", chance.choice(signs)]) + text[place + cut:]
            want = expected(text)
            right += want != [-1]
            self.assertEqual(nodes(text), want, text)
        self.assertGreater(right, 100)


if __name__ == "__main__":
    unittest.main()
