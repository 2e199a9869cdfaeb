"""What tables tell when they are gone through as a whole, or held against one another or a run."""

from callstrings.facts import BINDER, CONTENTS, FIRST, FUNCTION, NODE, SECOND, string_within
from callstrings.runs import FLOW


def find_arrows(table):
    arrows = []
    program = table.program
    for site in program.labels_of(("call",)):
        for what, label in table.sorts_in_any_string(NODE, program.parts[site][0]):
            if what == FUNCTION:
                arrows.append((site, label))
    return arrows


def find_dead(table):
    dead = []
    for label, home in enumerate(table.program.homes):
        if home is not None and not table.strings_of_body(home):
            dead.append(label)
    return dead


def list_places(program):
    places = [(NODE, label) for label in range(len(program.kinds))]
    places.extend([(BINDER, label) for label in program.labels_of(("fun", "let"))])
    for label in program.labels_of(("pair",)):
        places.extend([(FIRST, label), (SECOND, label)])
    places.extend([(CONTENTS, label) for label in program.labels_of(("new",))])
    return places


# The first place at which not the same sorts may be, None if there is none.
def find_parting(coarse, fine):
    for group, label in list_places(coarse.program):
        if coarse.sorts_in_any_string(group, label) != fine.sorts_in_any_string(group, label):
            return (group, label)
    return None


def has_flow(table, label, string, value):
    sorts = table.sorts_at((NODE, label, string[:table.most]))
    return value in [sort[:2] for sort in sorts]


# That the function may be at its node is looked at with its flow, which comes
# about ahead; the call itself is that the body is come to from this site.
def has_call(table, site, string, value):
    return string_within(site, string, table.most) in table.strings_of_body(value[1])


# The label of the first flow's node or call's site that isn't in the table, None if all are.
def find_missing(table, run):
    for event, label, string, value in run.came_about:
        if event == FLOW:
            found = has_flow(table, label, string, value)
        else:
            found = has_call(table, label, string, value)
        if not found:
            return label
    return None
