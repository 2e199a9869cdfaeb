"""The calls: one object, and what each call on it answers."""

from callstrings.compare import find_arrows, find_dead, find_missing, find_parting
from callstrings.facts import BINDER, NODE
from callstrings.programs import NotAProgram, read_program
from callstrings.rules import grow_table, grow_table_without_strings
from callstrings.runs import Run, finish

# The refusals.
NO_PROGRAM = -1
OUT_OF_RANGE = -2
NO_NODE = -3
NO_STRING = -4
WRONG_KIND = -5
TOO_LARGE = -7

MOST_LABELS = 2
LARGEST_INPUT = 9


class Subject:
    def __init__(self):
        self.program = read_program([ord("0")])
        self.most = 1
        self.grown = {}

    def change_program(self, program):
        self.program = program
        self.grown = {}

    def find_table(self):
        return self.find_table_by(self.most)

    # Kept until the program changes, as a line may ask for one table many times.
    def find_table_by(self, most):
        if most not in self.grown:
            self.grown[most] = grow_table(self.program, most)
        return self.grown[most]


def answer_program(subject, text):
    try:
        program = read_program(text)
    except NotAProgram:
        return [NO_PROGRAM]
    subject.change_program(program)
    return [len(program.kinds)]


def answer_strings(subject, most):
    if not 0 <= most <= MOST_LABELS:
        return [OUT_OF_RANGE]
    before = subject.most
    subject.most = most
    return [before]


def answer_facts(subject):
    table = subject.find_table()
    if table.too_large():
        return [TOO_LARGE]
    return [table.count_facts(), table.body_facts]


def answer_values(subject, label):
    if not subject.program.has_node(label):
        return [NO_NODE]
    table = subject.find_table()
    if table.too_large():
        return [TOO_LARGE]
    return tell_pairs(table.sorts_in_any_string(NODE, label))


def answer_at(subject, label, string):
    if not subject.program.has_node(label):
        return [NO_NODE]
    if not is_string(subject, string):
        return [NO_STRING]
    table = subject.find_table()
    if table.too_large():
        return [TOO_LARGE]
    sorts = table.sorts_at((NODE, label, tuple(string)))
    told = [len(sorts)]
    for what, maker, made in sorts:
        told.extend([what, maker, len(made)])
        told.extend(made)
    return told


def is_string(subject, string):
    if len(string) > subject.most:
        return False
    return all([subject.program.is_kind(label, "call") for label in string])


def answer_arrows(subject):
    table = subject.find_table()
    if table.too_large():
        return [TOO_LARGE]
    return tell_pairs(find_arrows(table))


def answer_bodies(subject, label):
    if not subject.program.has_node(label):
        return [NO_NODE]
    if not subject.program.is_kind(label, "fun"):
        return [WRONG_KIND]
    table = subject.find_table()
    if table.too_large():
        return [TOO_LARGE]
    strings = table.strings_of_body(label)
    told = [len(strings)]
    for string in strings:
        told.append(len(string))
        told.extend(string)
    return told


def answer_ladder(subject):
    tables = [subject.find_table_by(most) for most in range(MOST_LABELS + 1)]
    if any([table.too_large() for table in tables]):
        return [TOO_LARGE]
    plain = grow_table_without_strings(subject.program)
    return [len(find_arrows(table)) for table in [plain] + tables]


def answer_parts(subject, most):
    if not 1 <= most <= MOST_LABELS:
        return [OUT_OF_RANGE]
    coarse = subject.find_table_by(most - 1)
    fine = subject.find_table_by(most)
    if coarse.too_large() or fine.too_large():
        return [TOO_LARGE]
    place = find_parting(coarse, fine)
    if place is None:
        return [0]
    return [1, place[0], place[1]]


def answer_dead(subject):
    table = subject.find_table()
    if table.too_large():
        return [TOO_LARGE]
    dead = find_dead(table)
    return [len(dead)] + dead


def answer_check(subject, given):
    if not 0 <= given <= LARGEST_INPUT:
        return [OUT_OF_RANGE]
    table = subject.find_table()
    if table.too_large():
        return [TOO_LARGE]
    run = Run(subject.program, given)
    # However the run ends, what came about until then counts.
    finish(run)
    missing = find_missing(table, run)
    if missing is None:
        return [1]
    return [0, missing]


def answer_name(subject, label):
    if not subject.program.has_node(label):
        return [NO_NODE]
    if subject.program.kinds[label] not in ("fun", "let"):
        return [WRONG_KIND]
    table = subject.find_table()
    if table.too_large():
        return [TOO_LARGE]
    return tell_pairs(table.sorts_in_any_string(BINDER, label))


def answer_size(subject):
    program = subject.program
    return [len(program.kinds), subject.most, program.count_kind("call"), program.count_kind("fun")]


def tell_pairs(pairs):
    told = [len(pairs)]
    for first, second in pairs:
        told.extend([first, second])
    return told
