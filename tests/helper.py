"""What the tests share: calls written by name, and their answers taken apart."""

from callstrings.tables import answers

NUMBERS = {
    "program": 0, "strings": 1, "facts": 2, "values": 3, "at": 4, "arrows": 5,
    "bodies": 6, "ladder": 7, "parts": 8, "dead": 9, "check": 10, "name": 11, "size": 12,
}

EXAMPLE = "(let id (fun x x) (pair (id in) (id (fun y 3))))"
# By strings of at most 2 the first has just 400 facts, the second 401.
FULL = "(new (pair 0 (let f (fun x (if (x x) (x x) (new (x x)))) (add (f f) (f f)))))"
OVERFULL = "(let z (pair 0 (let f (fun x (if (x x) (x x) (new (x x)))) (add (f f) (f f)))) z)"
# Of the tables by strings of at most 0, 1, 2 only the one by 0 is too large; only the one by 1. By 2: OVERFULL.
LARGE_BY_NONE = (
    "(let x (fun x ((x (fun y (fun y (fun y y)))) (x (fun y (fun z (pair z z))))))"
    " (((x x) (fun y (fun y (fun z x)))) (fun y (fun y (fun w (fun z y))))))"
)
LARGE_BY_ONE = (
    "(let x (fun x ((x (fun y (fun y x))) (x (fun y (pair x x)))))"
    " (((x x) (fun y (fun y (pair y y)))) (fun y (fun y (fun y (pair y y))))))"
)
LARGEST = 10 ** 18


def encode(*calls):
    """Each call is a tuple: its name, its whole numbers, its row (a text or a list)."""
    told = []
    for name, *given in calls:
        told.append(NUMBERS[name])
        for one in given:
            if isinstance(one, str):
                one = list(one.encode("ascii"))
            if isinstance(one, list):
                told.append(len(one))
                told.extend(one)
            else:
                told.append(one)
    return told


def split(told):
    found = []
    place = 0
    while place < len(told):
        size = told[place]
        found.append(told[place + 1:place + 1 + size])
        assert len(found[-1]) == size
        place += 1 + size
    return found


def run(*calls):
    """One list of answers a call."""
    return split(answers(encode(*calls)))


def ask(text, most, *calls):
    """What these calls answer after the program and the strings have been set."""
    return run(("program", text), ("strings", most), *calls)[2:]
