"""The code of expressions and definitions."""

from quillrun.trees import expressions, parameters

# The first part that decides alone.
DECIDING = {"and": False, "or": True}


def definition_code(definition):
    """Returns the tuple of the codes of a function, a view or an act, and None for other definitions."""
    if definition[0] not in ("fun", "view", "act"):
        return None
    return tuple([code_of(e, parameters(definition)) for e in expressions(definition)])


def code_of(e, names):
    """Returns the code of an expression with local names, the last one the nearest."""
    match e:
        case ("name", name):
            return (code_of_name(name, names),)
        case ("binary", operator, first, second):
            return code_of_binary(operator, code_of(first, names), code_of(second, names))
        case ("not", first):
            return (*code_of(first, names), ("not",))
        case ("cons", first, second):
            return (*code_of(first, names), *code_of(second, names), ("pair",))
        case ("list", items):
            return (*code_of_all(items, names), ("list", len(items)))
        case ("make", maker, arguments):
            return (*code_of_all(arguments, names), ("make", maker, len(arguments)))
        case ("call", name, arguments):
            return (*code_of_all(arguments, names), ("call", name, len(arguments)))
        case ("let", name, first, second):
            return (*code_of(first, names), ("keep",), *code_of(second, (*names, name)), ("leave", 1))
        case ("match", whole, arms):
            return (*code_of(whole, names), *code_of_arms(arms, names))
        case _:
            return code_of_choice(e, names)


def code_of_choice(e, names):
    """Does the same for a literal, a condition and the choice of a list."""
    match e:
        case ("if", condition, first, second):
            one = code_of(first, names)
            other = code_of(second, names)
            return (*code_of(condition, names), ("unless", len(one) + 1), *one, ("skip", len(other)), *other)
        case ("split", whole, first, item, rest, second):
            one = code_of(first, names)
            other = code_of(second, (*names, item, rest))
            start = (*code_of(whole, names), ("open", len(one) + 1))
            return (*start, *one, ("skip", len(other) + 1), *other, ("leave", 2))
    return (("push", e[1]),)


def code_of_all(parts, names):
    """Returns the codes of expressions, one after another."""
    return tuple([instruction for e in parts for instruction in code_of(e, names)])


def code_of_name(name, names):
    """Returns the instruction for a name."""
    for nearer, known in enumerate(reversed(names)):
        if known == name:
            return ("local", nearer)
    return ("look", name)


def code_of_binary(operator, first, second):
    """Returns the code of an operator, given the codes of both sides."""
    if operator in DECIDING:
        return (*first, ("stays", DECIDING[operator], len(second)), *second)
    return (*first, *second, ("op", operator))


def code_of_arms(arms, names):
    """Returns the code of the arms of a match, with the instruction that picks one."""
    blocks = [(*code_of(e, (*names, *own)), ("leave", len(own))) for _, own, e in arms]
    # Each block gets one more instruction, which skips those after it.
    total = sum([len(block) + 1 for block in blocks])
    choices = []
    code = []
    for arm, block in zip(arms, blocks):
        choices.append((arm[0], len(arm[1]), len(code)))
        code.extend(block)
        code.append(("skip", total - len(code) - 1))
    return (("pick", tuple(choices)), *code)
