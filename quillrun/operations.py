"""What operations make of values. Each returns an outcome: ("value", value) or ("fault", fault)."""

from quillrun.values import form, is_large, same

STUCK = ("fault", ("stuck",))
LARGE = ("fault", ("large",))
DIVISION = ("fault", ("division",))
MOST_DEEP = 12
MOST_CALLS = 100


def operated(operator, first, second):
    """Returns the outcome of an operator other than `and` and `or`."""
    if operator == "=":
        return ("value", same(first, second))
    expected = "text" if operator == "++" else "num"
    if form(first) != expected or form(second) != expected:
        return STUCK
    if operator == "<":
        return ("value", first < second)
    if operator in ("/", "mod"):
        return DIVISION if second == 0 else bounded(divided(operator, first, second))
    if operator == "-":
        return bounded(first - second)
    return bounded(first * second if operator == "*" else first + second)


def divided(operator, first, second):
    """Returns the quotient, rounded toward zero, or the remainder, which has the sign of the first number."""
    quotient = abs(first) // abs(second)
    if (first < 0) != (second < 0):
        quotient = -quotient
    return quotient if operator == "/" else first - second * quotient


def negated(value):
    """Returns the outcome of `not`."""
    return ("value", not value) if form(value) == "bool" else STUCK


def prepended(first, rest):
    """Returns the outcome of `::`."""
    return bounded(("list", (first, *rest[1]))) if form(rest) == "list" else STUCK


def bounded(value):
    """Returns the outcome of an operation with this result, which may be too large."""
    return LARGE if is_large(value) else ("value", value)


def fault_of_call(function, name, count, depth, calls):
    """Returns the fault of a call that comes at this depth and after so many calls, or None.

    `function` is the definition in force with the name, or None.
    """
    if depth >= MOST_DEEP:
        return ("deep",)
    if function is None or function[0] != "fun":
        return ("missing", name)
    if calls >= MOST_CALLS:
        return ("long",)
    return None if len(function[2]) == count else ("stuck",)


def taken(stack, count):
    """Removes the topmost values of a stack and returns them as a tuple, the lowest first."""
    start = len(stack) - count
    found = tuple(stack[start:])
    del stack[start:]
    return found
