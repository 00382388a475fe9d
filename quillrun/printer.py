"""The printer, which writes trees of definitions as chunks, and types in the words of the language."""

# The lines of the grammar of expressions, from the loosest to the tightest.
LINE_WHOLE = 1
LINE_NOT = 4
LINE_COMPARISON = 5
LINE_CONS = 6
LINE_PRIMARY = 9
FORM_LINES = {"if": 1, "let": 1, "not": 4, "cons": 6}
OPERATOR_LINES = {"or": 2, "and": 3, "=": 5, "<": 5, "+": 7, "-": 7, "++": 7, "*": 8, "/": 8, "mod": 8}


def write_definition(tree):
    """Returns a chunk that is read as this tree, with as few parentheses as possible."""
    match tree:
        case ("data", name, makers):
            return f"data {name} = " + " | ".join([write_maker(maker, fields) for maker, fields in makers])
        case ("fun", name, parameters, e):
            return f"fun {name}{in_parentheses(parameters)} = {write_expression(e)}"
        case ("cell", name, kind, e, turn):
            return f"cell {name} : {write_kind(kind)} = {write_expression(e)}{write_turn(turn)}"
        case ("view", name, e):
            return f"view {name} = {write_expression(e)}"
        case ("act", name, parameters, settings, e):
            head = f"act {name}{in_parentheses(parameters)} ="
            return f"{head}{write_settings(settings)} then {write_expression(e)}"


def write_kind(kind):
    """Returns a type in the words of the language."""
    levels, base = kind
    written = base if isinstance(base, str) else f"'{base}"
    return "list " * levels + written


def write_maker(maker, fields):
    """Writes a maker of data with the types of its arguments."""
    return maker + in_parentheses_if_any([write_kind(field) for field in fields])


def write_turn(turn):
    """Writes the turn of a cell, with a space before it, if there is one."""
    return "" if turn is None else f" turn {turn}"


def write_settings(settings):
    """Writes what an act sets, with a space before it, if it sets anything."""
    written = ", ".join([f"{cell} := {write_expression(e)}" for cell, e in settings])
    return f" {written}" if settings else ""


def in_parentheses(words):
    """Writes words with commas between them in parentheses."""
    return "(" + ", ".join(list(words)) + ")"


def in_parentheses_if_any(words):
    """Writes the same, but nothing for the empty parentheses that may be left out."""
    return in_parentheses(words) if words else ""


def write_expression(e, line=LINE_WHOLE):
    """Writes an expression at a place where one of this line or a tighter one may stand."""
    written = write_bare(e)
    return f"({written})" if line_of(e) < line else written


def line_of(e):
    """Returns the line of the grammar on which an expression stands."""
    if e[0] == "binary":
        return OPERATOR_LINES[e[1]]
    return FORM_LINES.get(e[0], LINE_PRIMARY)


def write_bare(e):
    """Writes an expression without parentheses around it."""
    match e:
        case ("number", number):
            return str(number)
        case ("text", text):
            return "'" + text.replace("'", "''") + "'"
        case ("bool", truth):
            return "true" if truth else "false"
        case ("name", name):
            return name
        case ("list", items):
            return "[" + ", ".join(write_all(items)) + "]"
        case ("call", name, arguments):
            return name + in_parentheses(write_all(arguments))
        case ("make", maker, arguments):
            return maker + in_parentheses_if_any(write_all(arguments))
        case ("binary", operator, first, second):
            return write_binary(operator, first, second)
        case _:
            return write_longer(e)


def write_longer(e):
    """Writes one of the forms that consist of several words and expressions."""
    match e:
        case ("not", first):
            return f"not {write_expression(first, LINE_NOT)}"
        case ("cons", first, second):
            return f"{write_expression(first, LINE_CONS + 1)} :: {write_expression(second, LINE_CONS)}"
        case ("if", condition, first, second):
            start = f"if {write_expression(condition)} then {write_expression(first)}"
            return f"{start} else {write_expression(second)}"
        case ("let", name, first, second):
            return f"let {name} = {write_expression(first)} in {write_expression(second)}"
        case ("split", whole, first, item, rest, second):
            start = f"case {write_expression(whole)} of [] -> {write_expression(first)}"
            return f"{start}; {item} :: {rest} -> {write_expression(second)} end"
        case ("match", whole, arms):
            written = "; ".join([write_arm(arm) for arm in arms])
            return f"case {write_expression(whole)} of {written} end"


def write_all(expressions):
    """Writes expressions that stand between commas."""
    return [write_expression(e) for e in expressions]


def write_arm(arm):
    """Writes an arm of a match."""
    maker, names, e = arm
    return f"{maker}{in_parentheses_if_any(names)} -> {write_expression(e)}"


def write_binary(operator, first, second):
    """Writes an operator between two expressions; only a comparison does not associate to the left."""
    line = OPERATOR_LINES[operator]
    first_line = line + 1 if line == LINE_COMPARISON else line
    return f"{write_expression(first, first_line)} {operator} {write_expression(second, line + 1)}"
