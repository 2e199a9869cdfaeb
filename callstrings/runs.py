"""Runs: a program gone through node by node on an input, and what comes about in it."""

from callstrings.facts import FUNCTION, NUMBER, PAIR, REFERENCE, string_within

MOST_STEPS = 300
MOST_SITES = 3
MODULUS = 100

# What comes about.
FLOW = 0
CALL = 1

# How a run comes to its end.
ENDED = 0
WRONG = 1
LONG = 2


class WrongRun(Exception):
    pass


class LongRun(Exception):
    pass


# A node that has been come to and hasn't given its value yet: got has what its
# parts have given so far, bound what the names around it are bound to, by binders.
class Frame:
    def __init__(self, label, string, bound):
        self.label = label
        self.string = string
        self.bound = bound
        self.got = []


# A value is (what it is, label, what it holds): a number holds itself, a function
# what's bound around it, a pair both parts, a reference a list with its contents.
# came_about has as keys (FLOW or CALL, label, string, what the value is), in order.
# The frames are a list of the run's own, as runs may nest deeper than calls may.
class Run:
    def __init__(self, program, given):
        self.program = program
        self.given = given
        self.steps = 0
        self.frames = []
        self.came_about = {}

    def enter(self, label, string, bound):
        if self.steps == MOST_STEPS:
            raise LongRun()
        self.steps += 1
        self.frames.append(Frame(label, string, bound))

    def note(self, event, frame, value):
        self.came_about[(event, frame.label, frame.string, value[:2])] = True

    def give(self, value):
        frame = self.frames.pop()
        self.note(FLOW, frame, value)
        if self.frames:
            self.frames[-1].got.append(value)

    def enter_part(self, frame, place, bound):
        self.enter(self.program.parts[frame.label][place], frame.string, bound)


def need(value, what):
    if value[0] != what:
        raise WrongRun()


# A new dict, as functions may have kept the one before.
def bind(bound, binder, value):
    more = dict(bound)
    more[binder] = value
    return more


def run_number(run, frame):
    run.give((NUMBER, 0, run.program.numbers[frame.label]))


def run_in(run, frame):
    run.give((NUMBER, 0, run.given))


def run_name(run, frame):
    run.give(frame.bound[run.program.binders[frame.label]])


def run_fun(run, frame):
    run.give((FUNCTION, frame.label, frame.bound))


def run_call(run, frame):
    function = frame.got[0]
    need(function, FUNCTION)
    run.note(CALL, frame, function)
    fun = function[1]
    inner = string_within(frame.label, frame.string, MOST_SITES)
    run.enter(run.program.parts[fun][0], inner, bind(function[2], fun, frame.got[1]))


def run_let(run, frame):
    run.enter_part(frame, 1, bind(frame.bound, frame.label, frame.got[0]))


def run_if(run, frame):
    need(frame.got[0], NUMBER)
    run.enter_part(frame, 1 if frame.got[0][2] == 0 else 2, frame.bound)


def run_pair(run, frame):
    run.give((PAIR, frame.label, (frame.got[0], frame.got[1])))


def run_fst(run, frame):
    need(frame.got[0], PAIR)
    run.give(frame.got[0][2][0])


def run_snd(run, frame):
    need(frame.got[0], PAIR)
    run.give(frame.got[0][2][1])


def run_new(run, frame):
    run.give((REFERENCE, frame.label, [frame.got[0]]))


def run_get(run, frame):
    need(frame.got[0], REFERENCE)
    run.give(frame.got[0][2][0])


def run_set(run, frame):
    need(frame.got[0], REFERENCE)
    contents = frame.got[0][2]
    contents[0] = frame.got[1]
    run.give(frame.got[1])


def run_add(run, frame):
    need(frame.got[0], NUMBER)
    need(frame.got[1], NUMBER)
    run.give((NUMBER, 0, (frame.got[0][2] + frame.got[1][2]) % MODULUS))


# How many parts of a node are run in any case, ahead of what its kind does then.
PARTS_AHEAD = {
    "number": 0, "in": 0, "name": 0, "fun": 0, "call": 2, "let": 1, "if": 1,
    "pair": 2, "fst": 1, "snd": 1, "new": 1, "get": 1, "set": 2, "add": 2,
}
KINDS = {
    "number": run_number, "in": run_in, "name": run_name, "fun": run_fun,
    "call": run_call, "let": run_let, "if": run_if, "pair": run_pair,
    "fst": run_fst, "snd": run_snd, "new": run_new, "get": run_get,
    "set": run_set, "add": run_add,
}


def go_on(run):
    frame = run.frames[-1]
    kind = run.program.kinds[frame.label]
    ahead = PARTS_AHEAD[kind]
    if len(frame.got) < ahead:
        run.enter_part(frame, len(frame.got), frame.bound)
    elif len(frame.got) == ahead:
        run_kind = KINDS[kind]
        run_kind(run, frame)
    else:
        # A body or a branch has been run: the node gives what that gave.
        run.give(frame.got[ahead])


# Runs until it ends, is wrong or is long.
def finish(run):
    try:
        run.enter(0, (), {})
        while run.frames:
            go_on(run)
    except WrongRun:
        return WRONG
    except LongRun:
        return LONG
    return ENDED
