"""Programs: their texts read into labelled nodes."""

SIGNS = "() 0123456789abcdefghijklmnopqrstuvwxyz"
# The ten words that are no names, with how many parts their forms have.
FORMS = {
    "fun": 1, "let": 2, "if": 3, "pair": 2, "fst": 1,
    "snd": 1, "new": 1, "get": 1, "set": 2, "add": 2,
}
MOST_NODES = 30
MOST_AROUND = 8
MOST_LETTERS = 4


class NotAProgram(Exception):
    pass


# All lists are by label; numbers tells what a number is, binders where a name is
# bound, both None at other nodes. A node's home is the innermost fun in whose
# body it stands, None outside of all; outer tells for each fun the binders that
# its body needs from outside.
class Program:
    def __init__(self):
        self.kinds = []
        self.parts = []
        self.numbers = []
        self.binders = []
        self.homes = []
        self.outer = {}

    def has_node(self, label):
        return 0 <= label < len(self.kinds)

    def is_kind(self, label, kind):
        return self.has_node(label) and self.kinds[label] == kind

    def labels_of(self, kinds):
        return [label for label, kind in enumerate(self.kinds) if kind in kinds]

    def count_kind(self, kind):
        return self.kinds.count(kind)


def spell(text):
    known = {}
    for sign in SIGNS:
        known[ord(sign)] = sign
    signs = []
    for byte in text:
        if byte not in known:
            raise NotAProgram()
        signs.append(known[byte])
    return "".join(signs)


def is_number(word):
    return word == "0" or (word.isdigit() and len(word) <= 2 and word[0] != "0")


def is_name(word):
    return word.isalpha() and len(word) <= MOST_LETTERS and word not in FORMS


# "call" is a name that a program may use, so it can't stand among the forms.
def count_parts(kind):
    if kind == "call":
        return 2
    return FORMS[kind]


# around holds the labels of the nodes that are open, the outermost first:
# a list of its own, as a text may nest deeper than calls may.
class Reader:
    def __init__(self, signs):
        self.signs = signs
        self.place = 0
        self.program = Program()
        self.names = []
        self.around = []

    def sees(self, sign):
        return self.signs.startswith(sign, self.place)

    def skip(self, sign):
        if not self.sees(sign):
            raise NotAProgram()
        self.place += len(sign)

    def peek_word(self):
        end = self.place
        while end < len(self.signs) and self.signs[end].isalnum():
            end += 1
        return self.signs[self.place:end]

    def take_word(self):
        word = self.peek_word()
        self.place += len(word)
        return word

    def home(self):
        for label in reversed(self.around):
            if self.program.kinds[label] == "fun":
                return label
        return None

    def add_node(self, kind):
        program = self.program
        label = len(program.kinds)
        if label == MOST_NODES or len(self.around) > MOST_AROUND:
            raise NotAProgram()
        if self.around:
            program.parts[self.around[-1]].append(label)
        program.kinds.append(kind)
        program.parts.append([])
        program.numbers.append(None)
        program.binders.append(None)
        program.homes.append(self.home())
        self.names.append(None)
        return label

    def begin(self):
        if self.sees("("):
            self.begin_form()
        else:
            self.read_leaf()

    def begin_form(self):
        self.skip("(")
        kind = self.peek_word()
        if kind in FORMS:
            self.skip(kind)
        else:
            kind = "call"
        label = self.add_node(kind)
        if kind == "fun":
            self.program.outer[label] = []
        if kind == "fun" or kind == "let":
            self.names[label] = self.read_binder()
        self.around.append(label)

    def read_binder(self):
        self.skip(" ")
        word = self.take_word()
        if not is_name(word) or word == "in":
            raise NotAProgram()
        return word

    def read_leaf(self):
        word = self.take_word()
        if is_number(word):
            label = self.add_node("number")
            self.program.numbers[label] = int(word)
        elif word == "in":
            self.add_node("in")
        elif is_name(word):
            self.use_name(word)
        else:
            raise NotAProgram()

    def use_name(self, word):
        label = self.add_node("name")
        binder = self.find_binder(word)
        self.program.binders[label] = binder
        for fun in self.around:
            if fun > binder and self.program.kinds[fun] == "fun":
                self.need_outside(fun, binder)

    def find_binder(self, word):
        for label in reversed(self.around):
            if self.names[label] == word and self.in_last_part(label):
                return label
        raise NotAProgram()

    def need_outside(self, fun, binder):
        needed = self.program.outer[fun]
        if binder not in needed:
            needed.append(binder)

    # A let's own part doesn't see its name: binders hold in their last part alone.
    def in_last_part(self, label):
        program = self.program
        return len(program.parts[label]) == count_parts(program.kinds[label])

    def go_on(self):
        label = self.around[-1]
        if self.in_last_part(label):
            self.skip(")")
            self.around.pop()
            return
        # A call has no word ahead of its first part, so no blank either.
        if self.program.kinds[label] != "call" or self.program.parts[label]:
            self.skip(" ")
        self.begin()


def read_program(text):
    reader = Reader(spell(text))
    reader.begin()
    while reader.around:
        reader.go_on()
    if reader.place != len(reader.signs):
        raise NotAProgram()
    return reader.program
