"""Trees of definitions that are made at random, for tests."""

NAMES = ("a", "b", "f", "long_name", "x1")
MAKERS = ("A", "B", "Long_Name")
OPERATORS = ("+", "-", "*", "/", "mod", "++", "=", "<", "and", "or")
TEXTS = ("", "it''s"[:3], "'", "''", "two\nlines", "a-b")


def some(random, make, most=3):
    return tuple(make(random) for _ in range(random.randrange(most + 1)))


def a_name(random):
    return random.choice(NAMES)


def a_kind(random):
    return (random.randrange(4), random.choice(("num", "text", "bool") + NAMES))


def a_leaf(random):
    return random.choice((
        ("number", random.randrange(10 ** random.randrange(1, 18))), ("text", random.choice(TEXTS)),
        ("bool", True), ("bool", False), ("name", a_name(random)), ("list", ()),
        ("call", a_name(random), ()), ("make", random.choice(MAKERS), ()),
    ))


def an_arm(random, depth):
    return (random.choice(MAKERS), some(random, a_name), an_expression(random, depth))


def an_expression(random, depth):
    """An expression that is at most so deep."""
    def e(random):
        return an_expression(random, depth - 1)

    if depth == 1:
        return a_leaf(random)
    form = random.randrange(12)
    if form < 4:
        return ("binary", random.choice(OPERATORS), e(random), e(random))
    if form == 4:
        return ("cons", e(random), e(random))
    if form == 5:
        return ("not", e(random))
    if form == 6:
        return ("if", e(random), e(random), e(random))
    if form == 7:
        return ("let", a_name(random), e(random), e(random))
    if form == 8:
        return ("split", e(random), e(random), a_name(random), a_name(random), e(random))
    if form == 9:
        arms = (an_arm(random, depth - 1),) + some(random, lambda r: an_arm(r, depth - 1), 2)
        return ("match", e(random), arms)
    if form == 10:
        return ("list", some(random, e))
    return (random.choice((("call", "f"), ("make", "A")))) + (some(random, e),)


def a_setting(random):
    return (a_name(random), an_expression(random, random.randrange(1, 4)))


def a_maker(random):
    return (random.choice(MAKERS), some(random, a_kind))


def a_definition(random):
    e = an_expression(random, random.randrange(1, 5))
    name = a_name(random)
    return random.choice((
        ("data", name, (a_maker(random),) + some(random, a_maker)),
        ("fun", name, some(random, a_name), e),
        ("cell", name, a_kind(random), e, random.choice((None, "f"))),
        ("view", name, e),
        ("act", name, some(random, a_name), some(random, a_setting), e),
    ))
