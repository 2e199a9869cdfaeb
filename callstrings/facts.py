"""Facts: which sorts may be where, in which strings, and which bodies are come to."""

# The groups of places.
NODE = 0
BINDER = 1
FIRST = 2
SECOND = 3
CONTENTS = 4

# What a value is.
NUMBER = 0
FUNCTION = 1
PAIR = 2
REFERENCE = 3

MOST_FACTS = 400


# The string of a body that's run from this site, cut to at most so many labels.
def string_within(site, string, most):
    return ((site,) + string)[:most]


# A cell is a place in a string: (group, label, string). A sort is (what it is,
# label, string in which it was made). A new fact waits until it has gone along
# its cell's links and to its watchers, so that the rules never call themselves.
class Table:
    def __init__(self, program, most):
        self.program = program
        self.most = most
        self.held = {}
        self.come_to = {}
        self.links = {}
        self.watchers = {}
        self.waiting = []
        self.sort_facts = 0
        self.body_facts = 0

    def count_facts(self):
        return self.sort_facts + self.body_facts

    def too_large(self):
        return self.count_facts() > MOST_FACTS

    def put(self, cell, sort):
        sorts = self.held.setdefault(cell, {})
        if sort not in sorts:
            sorts[sort] = True
            self.sort_facts += 1
            self.waiting.append((cell, sort))

    # True if the body was not come to in this string before.
    def mark_come_to(self, fun, string):
        strings = self.come_to.setdefault(fun, {})
        if string in strings:
            return False
        strings[string] = True
        self.body_facts += 1
        return True

    # What stood at a cell ahead of a new link or watcher has to reach it too.
    def wait_again(self, cell):
        for sort in self.sorts_at(cell):
            self.waiting.append((cell, sort))

    def link(self, source, target):
        targets = self.links.setdefault(source, {})
        if target not in targets:
            targets[target] = True
            self.wait_again(source)

    def watch(self, source, label, string):
        watchers = self.watchers.setdefault(source, {})
        if (label, string) not in watchers:
            watchers[(label, string)] = True
            self.wait_again(source)

    def targets_of(self, cell):
        return list(self.links.get(cell, {}))

    def watchers_of(self, cell):
        return list(self.watchers.get(cell, {}))

    def sorts_at(self, cell):
        return sorted(self.held.get(cell, {}), key=sort_order)

    def strings_of_body(self, fun):
        return sorted(self.come_to.get(fun, {}))

    # Without strings: pairs of what a sort is and its label.
    def sorts_in_any_string(self, group, label):
        found = {}
        for cell in self.held:
            if cell[0] == group and cell[1] == label:
                for sort in self.held[cell]:
                    found[(sort[0], sort[1], ())] = True
        return [sort[:2] for sort in sorted(found, key=sort_order)]


# The number comes ahead of all labels, 0 too, whatever the others are.
def sort_order(sort):
    return (sort[0] != NUMBER, sort[1], sort[2])
