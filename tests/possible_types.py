"""Point [30] for expressions, word by word: all types with few lists that an expression can have.

A `told` is a pair of arguments and result without variables, for each function that can be called.
"""
MOST = 5
BASES = ("num", "text", "bool", "d")
ALL = frozenset((levels, base) for levels in range(MOST + 1) for base in BASES)
NUM, TEXT, BOOL = (0, "num"), (0, "text"), (0, "bool")
MAKERS = {"A": (), "B": ((0, "num"), (1, "d"))}
OPERATORS = {"+": (NUM, NUM), "mod": (NUM, NUM), "<": (NUM, BOOL), "++": (TEXT, TEXT), "and": (BOOL, BOOL),
             "or": (BOOL, BOOL)}


def in_list(kind):
    return (kind[0] + 1, kind[1])


def possible(e, local, told):
    def can(part, kind, more=None):
        return kind in possible(part, local if more is None else {**local, **more}, told)

    match e:
        case ("number", _):
            return {NUM}
        case ("text", _):
            return {TEXT}
        case ("bool", _):
            return {BOOL}
        case ("name", x):
            return {local[x]} if x in local else {NUM} if x == "n" else set()
        case ("binary", "=", a, b):
            return {BOOL} if possible(a, local, told) & possible(b, local, told) else set()
        case ("binary", operator, a, b):
            side, result = OPERATORS[operator]
            return {result} if can(a, side) and can(b, side) else set()
        case ("not", a):
            return {BOOL} if can(a, BOOL) else set()
        case ("if", c, a, b):
            return possible(a, local, told) & possible(b, local, told) if can(c, BOOL) else set()
        case ("let", x, a, b):
            return union(possible(b, {**local, x: kind}, told) for kind in possible(a, local, told))
        case ("list", items):
            return {in_list(kind) for kind in ALL if all(can(item, kind) for item in items)}
        case ("cons", a, b):
            return {in_list(kind) for kind in possible(a, local, told)} & possible(b, local, told)
        case ("split", whole, a, h, t, b):
            lists = [kind for kind in possible(whole, local, told) if kind[0] > 0]
            return union(possible(a, local, told) & possible(b, {**local, h: (levels - 1, base), t: (levels, base)}, told)
                         for levels, base in lists)
        case ("call", f, arguments):
            return {result for kinds, result in told.get(f, ())
                    if len(kinds) == len(arguments) and all(map(can, arguments, kinds))}
        case ("make", maker, arguments):
            kinds = MAKERS[maker]
            return {(0, "d")} if len(kinds) == len(arguments) and all(map(can, arguments, kinds)) else set()
        case ("match", whole, arms):
            return possible_of_match(whole, arms, local, told)


def union(sets):
    return {kind for some in sets for kind in some}


def possible_of_match(whole, arms, local, told):
    if sorted(arm[0] for arm in arms) != sorted(MAKERS) or (0, "d") not in possible(whole, local, told):
        return set()
    found = set(ALL)
    for maker, names, e in arms:
        if len(names) != len(MAKERS[maker]) or len(set(names)) != len(names):
            return set()
        found &= possible(e, {**local, **dict(zip(names, MAKERS[maker]))}, told)
    return found
