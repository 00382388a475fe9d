"""Values: what they are made of, how they are written, and which types they have."""

# 2 to the power of 100, a larger exponent than the language allows.
TOO_LARGE = 1267650600228229401496703205376
MOST_SIZE = 1000
MOST_DEPTH = 40


def form(value):
    """Returns the word for the form of a value."""
    if isinstance(value, bool):
        return "bool"
    if isinstance(value, int):
        return "num"
    if isinstance(value, str):
        return "text"
    return value[0]


def inner(value):
    """Returns the tuple of the items or arguments of a value."""
    return value[-1] if isinstance(value, tuple) else ()


def bare(value):
    """Returns what a value is without its items or arguments."""
    return value[:-1] if isinstance(value, tuple) else value


def same(first, second):
    """Returns True if two values have the same form and the same parts."""
    waiting = [(first, second)]
    while waiting:
        one, other = waiting.pop()
        if form(one) != form(other) or len(inner(one)) != len(inner(other)) or bare(one) != bare(other):
            return False
        waiting.extend(list(zip(inner(one), inner(other))))
    return True


def size(value):
    """Returns the size of a value."""
    total = 0
    waiting = [value]
    while waiting:
        part = waiting.pop()
        total += 1 + (len(part) if isinstance(part, str) else 0)
        waiting.extend(inner(part))
    return total


def depth(value):
    """Returns the depth of a value."""
    deepest = 0
    level = [value]
    while level:
        deepest += 1
        level = [part for upper in level for part in inner(upper)]
    return deepest


def is_large(value):
    """Returns True if a value is too large."""
    if form(value) == "num":
        return abs(value) >= TOO_LARGE
    return size(value) > MOST_SIZE or depth(value) > MOST_DEPTH


def write_value(value):
    """Returns a value in the words of the language."""
    match form(value):
        case "num":
            return str(value)
        case "text":
            return "'" + value.replace("'", "''") + "'"
        case "bool":
            return "true" if value else "false"
        case "list":
            return "[" + write_parts(value[1]) + "]"
    return f"{value[1]}({write_parts(value[2])})" if value[2] else value[1]


def write_parts(values):
    """Writes values with commas between them."""
    return ", ".join([write_value(value) for value in values])


def has_kind(program, value, kind):
    """Returns True if a value has a type without variables, with the data in force in the program."""
    waiting = [(value, kind)]
    while waiting:
        part, expected = waiting.pop()
        kinds = kinds_inside(program, part, expected)
        if kinds is None:
            return False
        waiting.extend(list(zip(inner(part), kinds)))
    return True


def kinds_inside(program, value, kind):
    """Returns the types that the items or arguments of a value of the type have, or None if it has another one."""
    levels, base = kind
    if form(value) == "list":
        return [(levels - 1, base)] * len(value[1]) if levels > 0 else None
    if levels > 0:
        return None
    if form(value) == "make":
        return kinds_of_arguments(program, value, base)
    return [] if form(value) == base else None


def kinds_of_arguments(program, value, base):
    """Returns the types that the maker of a made value takes, or None if it does not make one of this type."""
    maker, arguments = value[1], value[2]
    if program.makers.get(maker) != base:
        return None
    fields = dict(program.data[base])[maker]
    return fields if len(fields) == len(arguments) else None
