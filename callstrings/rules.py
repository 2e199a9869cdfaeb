"""Rules: what each node that's come to in a string needs, and the tables grown by them."""

from callstrings.facts import BINDER, CONTENTS, FIRST, FUNCTION, NODE, NUMBER, PAIR, REFERENCE, SECOND
from callstrings.facts import Table, string_within


def part_cells(table, label, string):
    return [(NODE, part, string) for part in table.program.parts[label]]


def settle_number(table, label, string):
    table.put((NODE, label, string), (NUMBER, 0, ()))


def settle_name(table, label, string):
    table.link((BINDER, table.program.binders[label], string), (NODE, label, string))


def settle_fun(table, label, string):
    table.put((NODE, label, string), (FUNCTION, label, string))


# What these nodes need depends on the sorts that come to their first part.
def settle_watcher(table, label, string):
    table.watch(part_cells(table, label, string)[0], label, string)


def settle_let(table, label, string):
    cells = part_cells(table, label, string)
    table.link(cells[0], (BINDER, label, string))
    table.link(cells[1], (NODE, label, string))


def settle_if(table, label, string):
    for branch in part_cells(table, label, string)[1:]:
        table.link(branch, (NODE, label, string))


def settle_pair(table, label, string):
    cells = part_cells(table, label, string)
    table.put((NODE, label, string), (PAIR, label, string))
    table.link(cells[0], (FIRST, label, string))
    table.link(cells[1], (SECOND, label, string))


def settle_new(table, label, string):
    table.put((NODE, label, string), (REFERENCE, label, string))
    table.link(part_cells(table, label, string)[0], (CONTENTS, label, string))


def settle_set(table, label, string):
    settle_watcher(table, label, string)
    table.link(part_cells(table, label, string)[1], (NODE, label, string))


SETTLERS = {
    "number": settle_number, "in": settle_number, "add": settle_number,
    "name": settle_name, "fun": settle_fun, "call": settle_watcher,
    "let": settle_let, "if": settle_if, "pair": settle_pair,
    "fst": settle_watcher, "snd": settle_watcher, "new": settle_new,
    "get": settle_watcher, "set": settle_set,
}


def settle_home(table, home, string):
    program = table.program
    for label, its_home in enumerate(program.homes):
        if its_home == home:
            settle = SETTLERS[program.kinds[label]]
            settle(table, label, string)


def come_to_body(table, fun, string):
    if table.mark_come_to(fun, string):
        settle_home(table, fun, string)


def react_call(table, label, string, sort):
    if sort[0] != FUNCTION:
        return
    fun = sort[1]
    made = sort[2]
    inner = string_within(label, string, table.most)
    come_to_body(table, fun, inner)
    table.link(part_cells(table, label, string)[1], (BINDER, fun, inner))
    for binder in table.program.outer[fun]:
        table.link((BINDER, binder, made), (BINDER, binder, inner))
    table.link(part_cells(table, fun, inner)[0], (NODE, label, string))


# Where what a pair or a reference holds stands: by its label, in the string of its making.
def inside(group, sort):
    return (group, sort[1], sort[2])


def react_fst(table, label, string, sort):
    if sort[0] == PAIR:
        table.link(inside(FIRST, sort), (NODE, label, string))


def react_snd(table, label, string, sort):
    if sort[0] == PAIR:
        table.link(inside(SECOND, sort), (NODE, label, string))


def react_get(table, label, string, sort):
    if sort[0] == REFERENCE:
        table.link(inside(CONTENTS, sort), (NODE, label, string))


def react_set(table, label, string, sort):
    if sort[0] == REFERENCE:
        table.link(part_cells(table, label, string)[1], inside(CONTENTS, sort))


REACTIONS = {
    "call": react_call, "fst": react_fst, "snd": react_snd,
    "get": react_get, "set": react_set,
}


def pass_on(table, cell, sort):
    for target in table.targets_of(cell):
        table.put(target, sort)
    for label, string in table.watchers_of(cell):
        react = REACTIONS[table.program.kinds[label]]
        react(table, label, string, sort)


def pass_on_next(table):
    fact = table.waiting.pop()
    pass_on(table, fact[0], fact[1])


# A table that's too large is left unfinished, as it could only grow further.
def grow_table(program, most):
    table = Table(program, most)
    settle_home(table, None, ())
    while table.waiting and not table.too_large():
        pass_on_next(table)
    return table


# The table without strings: all bodies count as come to, and it's never too large.
def grow_table_without_strings(program):
    table = Table(program, 0)
    settle_home(table, None, ())
    for fun in program.labels_of(("fun",)):
        come_to_body(table, fun, ())
    while table.waiting:
        pass_on_next(table)
    return table
