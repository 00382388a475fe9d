"""The steps that build trees of the values that were kept, which are popped from the end of a list."""

# How many values each kind of tree has behind its word.
TREES = {
    "!data": 2, "!fun": 3, "!cell": 4, "!view": 2, "!act": 4,
    "!number": 1, "!text": 1, "!name": 1, "!list": 1, "!cons": 2, "!not": 1,
    "!if": 3, "!let": 3, "!call": 2, "!make": 2, "!split": 5, "!match": 2,
}


def popped(values, count):
    """Removes the last values and returns them as a tuple, in their order."""
    found = tuple(values[-count:])
    del values[-count:]
    return found


def begin_items(values):
    """Keeps an empty tuple, for items."""
    values.append(())


def add_item(values):
    """Adds the last value to the tuple before it."""
    items, item = popped(values, 2)
    values.append((*items, item))


def join_pair(values):
    """Makes one value of a maker and its types, or of a cell and what it is set to."""
    values.append(popped(values, 2))


def join_triple(values):
    """Makes one value of a maker, its names and the expression of its arm."""
    values.append(popped(values, 3))


def build_binary(values):
    """Builds the tree of an operator between two expressions."""
    first, operator, second = popped(values, 3)
    values.append(("binary", operator, first, second))


def build_true(values):
    """Builds the tree of true."""
    values.append(("bool", True))


def build_false(values):
    """Builds the tree of false."""
    values.append(("bool", False))


def keep_nothing(values):
    """Keeps None for the turn that a cell does not have."""
    values.append(None)


def begin_kind(values):
    """Makes a type of its base."""
    values.append((0, values.pop()))


def raise_level(values):
    """Puts list before a type."""
    levels, base = values.pop()
    values.append((levels + 1, base))


STEPS = {
    "!none": begin_items, "!item": add_item, "!pair": join_pair, "!triple": join_triple,
    "!binary": build_binary, "!true": build_true, "!false": build_false,
    "!nothing": keep_nothing, "!kind": begin_kind, "!level": raise_level,
}


def build(values, word):
    """Does the step that the word names."""
    if word in TREES:
        found = popped(values, TREES[word])
        values.append((word[1:], *found))
    else:
        step = STEPS[word]
        step(values)
