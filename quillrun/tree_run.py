"""Runs of expressions, by their trees.

What is still to be done stands on a stack of tasks, so that no expression and no call of the
program is a call of Python. A task is a word and what the function of this word is given.
"""

from quillrun.operations import bounded, fault_of_call, negated, operated, prepended, taken
from quillrun.values import form

# The first part that decides alone.
DECIDING = {"and": False, "or": True}


def meet(run, e, local):
    """Meets an expression: comes to its value, or leaves its parts and what follows them to be done."""
    run.steps += 1
    match e:
        case ("name", name):
            meet_name(run, name, local)
        case ("binary", operator, first, second):
            if operator in DECIDING:
                run.leave((first,), local, ("second", DECIDING[operator], second, local))
            else:
                run.leave((first, second), local, ("operate", operator))
        case ("not", first):
            run.leave((first,), local, ("negate",))
        case ("cons", first, second):
            run.leave((first, second), local, ("prepend",))
        case ("list", items):
            run.leave(items, local, ("list", len(items)))
        case ("make", maker, arguments):
            run.leave(arguments, local, ("make", maker, len(arguments)))
        case ("call", name, arguments):
            run.leave(arguments, local, ("call", name, len(arguments)))
        case _:
            meet_choice(run, e, local)


def meet_choice(run, e, local):
    """Does the same for a literal, and for what runs an expression after its first part."""
    match e:
        case ("if", condition, first, second):
            run.leave((condition,), local, ("branch", first, second, local))
        case ("let", name, first, second):
            run.leave((first,), local, ("bind", name, second, local))
        case ("split", whole, first, item, rest, second):
            run.leave((whole,), local, ("split", first, (item, rest), second, local))
        case ("match", whole, arms):
            run.leave((whole,), local, ("match", arms, local))
        case _:
            run.results.append(e[1])


def meet_name(run, name, local):
    """Comes to the value of the nearest local name, or leaves another one to be read."""
    for known, value in reversed(local):
        if known == name:
            run.results.append(value)
            return
    run.pending.append(("tell", name))


def tell(run, name):
    """Reads a name."""
    outcome, reads = run.world.told(name)
    run.read(reads)
    run.come(outcome)


def operate(run, operator):
    """Ends an operator."""
    first, second = taken(run.results, 2)
    run.come(operated(operator, first, second))


def decide(run, deciding, e, local):
    """Ends `and` or `or` after the first part, or goes on with the second one."""
    if form(run.results[-1]) != "bool":
        run.stick()
    elif run.results[-1] != deciding:
        run.results.pop()
        run.leave((e,), local, None)


def negate(run):
    """Ends `not`."""
    run.come(negated(run.results.pop()))


def prepend(run):
    """Ends `::`."""
    first, rest = taken(run.results, 2)
    run.come(prepended(first, rest))


def end_list(run, count):
    """Ends a list."""
    run.come(bounded(("list", taken(run.results, count))))


def end_make(run, maker, count):
    """Ends a make."""
    run.come(bounded(("make", maker, taken(run.results, count))))


def call(run, name, count):
    """Calls a function with the arguments that were run."""
    arguments = taken(run.results, count)
    run.read((name,))
    function = run.world.program.find(name)
    run.fault = fault_of_call(function, name, count, run.depth, run.calls)
    if run.fault is None:
        run.calls += 1
        run.depth += 1
        run.leave((function[3],), tuple(zip(function[2], arguments)), ("return",))


def end_call(run):
    """Ends a call."""
    run.depth -= 1


def branch(run, first, second, local):
    """Goes on with a branch after the condition."""
    condition = run.results.pop()
    if form(condition) == "bool":
        run.leave((first if condition else second,), local, None)
    else:
        run.stick()


def bind(run, name, e, local):
    """Goes on with the rest of a `let`."""
    run.leave((e,), (*local, (name, run.results.pop())), None)


def open_list(run, first, names, second, local):
    """Goes on with a branch after a list."""
    whole = run.results.pop()
    if form(whole) != "list":
        run.stick()
    elif whole[1]:
        values = (whole[1][0], ("list", whole[1][1:]))
        run.leave((second,), (*local, *list(zip(names, values))), None)
    else:
        run.leave((first,), local, None)


def choose(run, arms, local):
    """Goes on with the first arm of the maker after what is matched."""
    whole = run.results.pop()
    found = [arm for arm in arms if form(whole) == "make" and arm[0] == whole[1]]
    if found and len(found[0][1]) == len(whole[2]):
        run.leave((found[0][2],), (*local, *list(zip(found[0][1], whole[2]))), None)
    else:
        run.stick()


TASKS = {
    "meet": meet, "tell": tell, "operate": operate, "second": decide, "negate": negate, "prepend": prepend,
    "list": end_list, "make": end_make, "call": call, "return": end_call, "branch": branch, "bind": bind,
    "split": open_list, "match": choose,
}


class TreeRun:
    """A run: what it came to so far, and what is still to be done."""

    def __init__(self, world):
        self.world = world
        self.pending = []
        self.results = []
        self.fault = None
        self.steps = 0
        self.calls = 0
        self.depth = 0
        # A dict of True, which keeps the order in which names were first read.
        self.reads = {}

    def go(self):
        """Goes on to the end, or as far as a view that is not known yet, whose name it returns."""
        while self.pending and self.fault is None:
            if self.pending[-1][0] == "tell" and self.world.lacks(self.pending[-1][1]):
                return self.pending[-1][1]
            entry = self.pending.pop()
            word, *given = entry
            task = TASKS[word]
            task(self, *given)
        return None

    def outcome(self):
        """Returns the outcome of a run that is at its end."""
        return ("value", self.results[-1]) if self.fault is None else ("fault", self.fault)

    def leave(self, parts, local, task):
        """Leaves parts to be run, the first one first, and after them a task, if it is not None."""
        if task is not None:
            self.pending.append(task)
        self.pending.extend([("meet", part, local) for part in reversed(parts)])

    def come(self, outcome):
        """Takes the outcome of what was done last."""
        if outcome[0] == "value":
            self.results.append(outcome[1])
        else:
            self.fault = outcome[1]

    def stick(self):
        """Takes the fault of what is stuck."""
        self.fault = ("stuck",)

    def read(self, names):
        """Notes that names were read."""
        for name in names:
            self.reads[name] = True
