"""Types, schemes and equations of types.

A type is a pair (levels, base); a base that is an integer is a variable.
"""


def unify(equations):
    """Returns a dict with types for variables that makes all equations hold, or None if there is none."""
    found = {}
    for first, second in equations:
        if not make_equal(ended(first, found), ended(second, found), found):
            return None
    return found


def make_equal(first, second, found):
    """Notes in `found` what makes two types equal whose variables are free; returns False if nothing does."""
    if first[0] > second[0]:
        return make_equal(second, first, found)
    levels, base = first
    if base == second[1]:
        return levels == second[0]
    if isinstance(base, int):
        found[base] = (second[0] - levels, second[1])
        return True
    if isinstance(second[1], int) and levels == second[0]:
        found[second[1]] = (0, base)
        return True
    return False


def ended(kind, found):
    """Returns what `replaced` returns, and shortens the way to it, which otherwise may become long."""
    way = []
    levels, base = kind
    while base in found:
        way.append((base, levels))
        more, base = found[base]
        levels += more
    for variable, before in way:
        found[variable] = (levels - before, base)
    return levels, base


def replaced(kind, found):
    """Returns the type with its variable replaced by what the dict has for it, repeatedly."""
    levels, base = kind
    while base in found:
        more, base = found[base]
        levels += more
    return levels, base


def scheme(arguments, result):
    """Returns the scheme with its variables numbered in the order in which they first stand in it."""
    numbers = {}
    for _, base in (*arguments, result):
        if isinstance(base, int) and base not in numbers:
            numbers[base] = len(numbers)
    numbered = [(levels, numbers.get(base, base)) for levels, base in (*arguments, result)]
    return tuple(numbered[:-1]), numbered[-1]


def is_instance(first, second):
    """Returns True if the pair of arguments and result is an instance of the scheme `second`."""
    if len(first[0]) != len(second[0]):
        return False
    found = {}
    for kind, pattern in zip((*first[0], first[1]), (*second[0], second[1])):
        if not is_replaced(kind, pattern, found):
            return False
    return True


def is_replaced(kind, pattern, found):
    """Returns True if a type replaces the variable of the pattern as `found` tells; notes it if it is new."""
    levels, base = pattern
    if not isinstance(base, int):
        return kind == pattern
    if kind[0] < levels:
        return False
    for_variable = (kind[0] - levels, kind[1])
    return found.setdefault(base, for_variable) == for_variable
