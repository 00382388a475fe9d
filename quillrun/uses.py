"""The names that definitions make and use."""

from quillrun.trees import bound, expressions, kinds, parameters, parts

PLAIN_BASES = ("num", "text", "bool")


def makes(definition):
    """Returns the list of the names that a definition makes, its own first."""
    name = definition[1]
    if definition[0] == "data":
        return [name, *[maker for maker, _ in definition[2]]]
    return [name]


def makers_used(definition):
    """Returns the list of the makers that expressions and arms use, each once, in the order in which they are met."""
    found = [mentioned(e, parameters(definition)) for e in expressions(definition)]
    return each_once([word for words in found for is_maker, word in words if is_maker])


def uses(definition, makers):
    """Returns the list of the names that a definition uses, each once, in the order in which they are met."""
    used = [base for _, base in kinds(definition) if base not in PLAIN_BASES]
    cells = [cell for cell, _ in definition[3]] if definition[0] == "act" else []
    for place, e in enumerate(expressions(definition)):
        # The cells that an act sets stand before their expressions; its last expression has none.
        used.extend(cells[place:place + 1])
        for is_maker, word in mentioned(e, parameters(definition)):
            used.append(makers.get(word, word) if is_maker else word)
    if definition[0] == "cell" and definition[4] is not None:
        used.append(definition[4])
    return each_once(used)


def each_once(words):
    """Returns the list of words, each at its first place only."""
    return list({word: True for word in words})


def mentioned(e, local):
    """Returns pairs of whether a word is a maker and the word, for what an expression means that is not local."""
    if e[0] == "match":
        return mentioned_in_match(e, local)
    found = mentioned_at_start(e, local)
    for part, names in zip(parts(e), bound(e)):
        found.extend(mentioned(part, (*local, *names)))
    return found


def mentioned_at_start(e, local):
    """Returns such pairs for the expression itself, without its parts."""
    match e:
        case ("name", name):
            return [] if name in local else [(False, name)]
        case ("call", name, _):
            return [(False, name)]
        case ("make", maker, _):
            return [(True, maker)]
    return []


def mentioned_in_match(e, local):
    """Returns such pairs for a match, in which each maker stands before its arm."""
    _, whole, arms = e
    found = mentioned(whole, local)
    for maker, names, arm in arms:
        found.append((True, maker))
        found.extend(mentioned(arm, (*local, *names)))
    return found
