"""The machine, which runs code."""

from quillrun.code import definition_code
from quillrun.operations import bounded, fault_of_call, negated, operated, prepended, taken
from quillrun.telling import World, finished
from quillrun.values import form


def run_code(program, held, code, values):
    """Returns outcome, steps and reads of code with local values, the last one the nearest."""
    world = World(program, held, {})
    return finished(CodeRun(world, code, values, ()), world, view_run)


def call_code(program, held, name, values):
    """Returns outcome, steps and reads of the single instruction that calls a function."""
    world = World(program, held, {})
    return finished(CodeRun(world, (("call", name, len(values)),), (), values), world, view_run)


def view_run(world, name):
    """Returns a run of the code of a view in force that has not begun."""
    return CodeRun(world, code_in_force(world, name), (), ())


def code_in_force(world, name):
    """Returns the code of a function or a view in force."""
    if name not in world.codes:
        world.codes[name] = definition_code(world.program.find(name))[0]
    return world.codes[name]


def push(run, value):
    """Pushes a value."""
    run.stack.append(value)


def push_local(run, nearer):
    """Pushes a local value."""
    run.stack.append(run.local[len(run.local) - 1 - nearer])


def look(run, name):
    """Pushes what a name tells."""
    outcome, reads = run.world.told(name)
    run.read(reads)
    run.come(outcome)


def operate(run, operator):
    """Replaces two values by the result of an operator."""
    first, second = taken(run.stack, 2)
    run.come(operated(operator, first, second))


def negate(run):
    """Replaces the top by its negation."""
    run.come(negated(run.stack.pop()))


def skip(run, count):
    """Skips instructions."""
    run.at += count


def stay(run, deciding, count):
    """Leaves a top that decides and skips instructions, or pops it."""
    if form(run.stack[-1]) != "bool":
        run.stick()
    elif run.stack[-1] == deciding:
        run.at += count
    else:
        run.stack.pop()


def unless(run, count):
    """Skips instructions if the top was False."""
    condition = run.stack.pop()
    if form(condition) != "bool":
        run.stick()
    elif not condition:
        run.at += count


def keep(run):
    """Makes the top the nearest local value."""
    run.local.append(run.stack.pop())


def leave(run, count):
    """Removes the nearest local values."""
    taken(run.local, count)


def make_list(run, count):
    """Replaces values by their list."""
    run.come(bounded(("list", taken(run.stack, count))))


def pair(run):
    """Replaces a value and a list by the list with the value before it."""
    first, rest = taken(run.stack, 2)
    run.come(prepended(first, rest))


def open_list(run, count):
    """Makes the parts of a list local values and skips instructions, unless it is empty."""
    whole = run.stack.pop()
    if form(whole) != "list":
        run.stick()
    elif whole[1]:
        run.local.extend([whole[1][0], ("list", whole[1][1:])])
        run.at += count


def call(run, name, count):
    """Calls a function: the code that is executed waits for it."""
    arguments = taken(run.stack, count)
    run.read((name,))
    function = run.world.program.find(name)
    run.fault = fault_of_call(function, name, count, len(run.callers), run.calls)
    if run.fault is None:
        run.calls += 1
        run.callers.append((run.code, run.at, run.local))
        run.enter(code_in_force(run.world, name), arguments)


def make(run, maker, count):
    """Replaces arguments by the value that a maker makes of them."""
    run.come(bounded(("make", maker, taken(run.stack, count))))


def pick(run, choices):
    """Makes the arguments of a made value local values and skips to the first choice of its maker."""
    whole = run.stack.pop()
    found = [choice for choice in choices if form(whole) == "make" and choice[0] == whole[1]]
    if found and found[0][1] == len(whole[2]):
        run.local.extend(whole[2])
        run.at += found[0][2]
    else:
        run.stick()


INSTRUCTIONS = {
    "push": push, "local": push_local, "look": look, "op": operate, "not": negate, "skip": skip, "stays": stay,
    "unless": unless, "keep": keep, "leave": leave, "list": make_list, "pair": pair, "open": open_list,
    "call": call, "make": make, "pick": pick,
}


class CodeRun:
    """A run of code: a stack of values, local values, and the callers that wait."""

    def __init__(self, world, code, local, stack):
        self.world = world
        self.stack = list(stack)
        self.callers = []
        self.enter(code, local)
        self.is_ended = False
        self.fault = None
        self.steps = 0
        self.calls = 0
        # A dict of True, which keeps the order in which names were first read.
        self.reads = {}

    def enter(self, code, local):
        """Goes on with other code and its local values."""
        self.code = code
        self.at = 0
        self.local = list(local)

    def go(self):
        """Goes on to the end, or as far as a view that is not known yet, whose name it returns."""
        while not self.is_ended and self.fault is None:
            if self.at < len(self.code):
                word, *given = self.code[self.at]
                if word == "look" and self.world.lacks(given[0]):
                    return given[0]
                self.at += 1
                instruction = INSTRUCTIONS[word]
                instruction(self, *given)
            else:
                self.end_code()
            self.steps += 1
        return None

    def end_code(self):
        """Goes on with the caller that waits, if there is one; otherwise the run ends."""
        if self.callers:
            self.code, self.at, self.local = self.callers.pop()
        else:
            self.is_ended = True

    def outcome(self):
        """Returns the outcome of a run that is at its end."""
        return ("value", self.stack[-1]) if self.fault is None else ("fault", self.fault)

    def come(self, outcome):
        """Takes the outcome of an instruction."""
        if outcome[0] == "value":
            self.stack.append(outcome[1])
        else:
            self.fault = outcome[1]

    def stick(self):
        """Takes the fault of what is stuck."""
        self.fault = ("stuck",)

    def read(self, names):
        """Notes that names were read."""
        for name in names:
            self.reads[name] = True
