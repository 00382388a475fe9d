"""What the trees of definitions and expressions consist of."""


def parts(e):
    """Returns the tuple of the expressions that are the parts of an expression, in order."""
    match e:
        case ("list", items):
            return items
        case ("call", _, arguments):
            return arguments
        case ("make", _, arguments):
            return arguments
        case ("not", first):
            return (first,)
        case ("cons", first, second):
            return (first, second)
        case ("let", _, first, second):
            return (first, second)
        case ("binary", _, first, second):
            return (first, second)
        case ("if", condition, first, second):
            return (condition, first, second)
        case ("split", whole, first, _, _, second):
            return (whole, first, second)
        case ("match", whole, arms):
            return (whole, *[arm[2] for arm in arms])
    return ()


def expressions(definition):
    """Returns the tuple of the expressions that stand in a definition as a whole, in order."""
    match definition:
        case ("fun", _, _, e):
            return (e,)
        case ("cell", _, _, e, _):
            return (e,)
        case ("view", _, e):
            return (e,)
        case ("act", _, _, settings, e):
            return (*[setting[1] for setting in settings], e)
    return ()


def kinds(definition):
    """Returns the tuple of the types that stand in a definition, in order."""
    match definition:
        case ("data", _, makers):
            return tuple([field for _, fields in makers for field in fields])
        case ("cell", _, kind, _, _):
            return (kind,)
    return ()


def bound(e):
    """Returns for each part of an expression the tuple of the names that become local in it."""
    match e:
        case ("let", name, _, _):
            return ((), (name,))
        case ("split", _, _, item, rest, _):
            return ((), (), (item, rest))
        case ("match", _, arms):
            return ((), *[arm[1] for arm in arms])
    return tuple([() for _ in parts(e)])


def parameters(definition):
    """Returns the tuple of the parameters of a definition."""
    return definition[2] if definition[0] in ("fun", "act") else ()
