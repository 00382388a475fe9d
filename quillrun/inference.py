"""The types of the definitions of a component, by the equations that must hold between them."""

from quillrun.kinds import is_instance, replaced, scheme, unify

MOST_LEVELS = 12
PLAIN_BASES = ("num", "text", "bool")
NUM = (0, "num")
TEXT = (0, "text")
BOOL = (0, "bool")
LITERALS = {"number": (0, "num"), "text": (0, "text"), "bool": (0, "bool")}
# The base of both sides and the base of the result.
OPERATORS = {
    "+": ("num", "num"), "-": ("num", "num"), "*": ("num", "num"), "/": ("num", "num"), "mod": ("num", "num"),
    "<": ("num", "bool"), "++": ("text", "text"), "and": ("bool", "bool"), "or": ("bool", "bool"),
}


def all_differ(names):
    """Returns True if no name stands twice."""
    return len(set(names)) == len(names)


def listed(kind):
    """Returns the type of lists of what has this type."""
    return (kind[0] + 1, kind[1])


class Inference:
    """Collects what must hold if a component is typed, with a variable for each type that is not known."""

    def __init__(self, definitions, program):
        self.program = program
        self.definitions = definitions
        self.sorts = {definition[1]: definition[0] for definition in definitions}
        self.equations = []
        self.variables = 0
        self.own = {}
        for definition in definitions:
            if definition[0] in ("fun", "act"):
                self.own[definition[1]] = ([self.fresh() for _ in definition[2]], self.fresh())
            if definition[0] == "view":
                self.own[definition[1]] = ([], self.fresh())

    def fresh(self):
        """Returns a new variable as a type."""
        self.variables += 1
        return (0, self.variables)

    def equal(self, first, second):
        """Notes that two types must be equal."""
        self.equations.append((first, second))

    def refuse(self):
        """Notes that the component is not typed; what is returned stands for the type that is not there."""
        self.equal(NUM, TEXT)
        return self.fresh()

    def need(self, holds):
        """Notes that the component is typed only if this holds."""
        if not holds:
            self.refuse()

    def solution(self):
        """Returns the dict of the most general schemes, or None if the component is not typed."""
        for definition in self.definitions:
            self.judge(definition)
        found = unify(self.equations)
        if found is None:
            return None
        schemes = {}
        for name, (arguments, result) in self.own.items():
            schemes[name] = scheme([replaced(kind, found) for kind in arguments], replaced(result, found))
        if any([levels > MOST_LEVELS for told in schemes.values() for levels, _ in (*told[0], told[1])]):
            return None
        return schemes

    def judge(self, definition):
        """Notes what must hold for a definition."""
        match definition:
            case ("data", _, makers):
                for _, fields in makers:
                    self.need(all([self.is_known(base) for _, base in fields]))
            case ("cell", _, kind, e, turn):
                self.need(self.is_known(kind[1]) and (turn is None or self.can_turn(turn, kind)))
                self.expect(e, kind, {})
            case ("view", name, e):
                self.expect(e, self.own[name][1], {})
            case ("fun", name, parameters, e):
                self.expect(e, self.own[name][1], self.local_kinds(name, parameters))
            case ("act", name, parameters, settings, e):
                local = self.local_kinds(name, parameters)
                self.judge_settings(settings, local)
                self.expect(e, self.own[name][1], local)

    def is_known(self, base):
        """Returns True for the base of a type that is in force or becomes so with the component."""
        if base in PLAIN_BASES or base in self.program.data:
            return True
        return self.sorts.get(base) == "data"

    def can_turn(self, turn, kind):
        """Returns True if this is a function in force with one parameter and some result of this type."""
        found = self.program.find(turn)
        if found is None or found[0] != "fun" or len(found[2]) != 1:
            return False
        return is_instance(((), kind), ((), self.program.schemes[turn][1]))

    def local_kinds(self, name, parameters):
        """Returns the types of the parameters of a function or an act of the component."""
        self.need(all_differ(parameters))
        return dict(zip(parameters, self.own[name][0]))

    def judge_settings(self, settings, local):
        """Notes what must hold for what an act sets."""
        self.need(all_differ([cell for cell, _ in settings]))
        for cell, e in settings:
            kind = self.program.cells.get(cell)
            self.expect(e, self.refuse() if kind is None else kind, local)

    def expect(self, e, kind, local):
        """Notes that an expression must have a type."""
        self.equal(self.kind_of(e, local), kind)

    def kind_of(self, e, local):
        """Returns the type of an expression with the types of local names, and notes what must hold for it."""
        match e:
            case ("name", name):
                return self.kind_of_name(name, local)
            case ("binary", operator, first, second):
                return self.kind_of_binary(operator, first, second, local)
            case ("not", first):
                self.expect(first, BOOL, local)
                return BOOL
            case ("if", condition, first, second):
                self.expect(condition, BOOL, local)
                return self.kind_of_both(first, second, local)
            case ("let", name, first, second):
                return self.kind_of(second, {**local, name: self.kind_of(first, local)})
            case ("list", items):
                kind = self.fresh()
                for item in items:
                    self.expect(item, kind, local)
                return listed(kind)
            case ("cons", first, second):
                whole = listed(self.kind_of(first, local))
                self.expect(second, whole, local)
                return whole
            case _:
                return self.kind_of_longer(e, local)

    def kind_of_longer(self, e, local):
        """Does the same for the other forms of expressions."""
        match e:
            case ("split", whole, first, item, rest, second):
                kind = self.fresh()
                self.expect(whole, listed(kind), local)
                result = self.kind_of(first, local)
                self.expect(second, result, {**local, item: kind, rest: listed(kind)})
                return result
            case ("call", name, arguments):
                return self.kind_of_call(self.signature(name), arguments, local)
            case ("make", maker, arguments):
                return self.kind_of_call(self.signature_of_maker(maker), arguments, local)
            case ("match", whole, arms):
                return self.kind_of_match(whole, arms, local)
        return LITERALS[e[0]]

    def kind_of_name(self, name, local):
        """Returns the type of a name: of the local name, otherwise of the cell, otherwise of the view."""
        if name in local:
            return local[name]
        if name in self.program.cells:
            return self.program.cells[name]
        signature = self.signature(name, "view")
        return self.refuse() if signature is None else signature[1]

    def kind_of_binary(self, operator, first, second, local):
        """Returns the type of an operator between two expressions."""
        if operator == "=":
            self.kind_of_both(first, second, local)
            return BOOL
        base, result = OPERATORS[operator]
        self.expect(first, (0, base), local)
        self.expect(second, (0, base), local)
        return (0, result)

    def kind_of_both(self, first, second, local):
        """Returns the type that two expressions have to share."""
        kind = self.kind_of(first, local)
        self.expect(second, kind, local)
        return kind

    def signature(self, name, sort="fun"):
        """Returns the types of the arguments and the result of a function or a view, or None if it is none."""
        if name in self.sorts:
            return self.own[name] if self.sorts[name] == sort else None
        found = self.program.find(name)
        if found is None or found[0] != sort:
            return None
        return self.any_instance(self.program.schemes[name])

    def any_instance(self, told):
        """Returns the arguments and the result of an instance of a scheme, with new variables."""
        arguments, result = told
        variables = {}
        for _, base in (*arguments, result):
            if isinstance(base, int) and base not in variables:
                variables[base] = self.fresh()[1]
        found = [(levels, variables.get(base, base)) for levels, base in (*arguments, result)]
        return found[:-1], found[-1]

    def signature_of_maker(self, maker):
        """Returns the types of the arguments and the result of a maker, or None if no data in force have it."""
        data = self.program.makers.get(maker)
        if data is None:
            return None
        return dict(self.program.data[data])[maker], (0, data)

    def kind_of_call(self, signature, arguments, local):
        """Returns the type of a call or a make with this signature."""
        if signature is None or len(signature[0]) != len(arguments):
            return self.refuse()
        for argument, kind in zip(arguments, signature[0]):
            self.expect(argument, kind, local)
        return signature[1]

    def kind_of_match(self, whole, arms, local):
        """Returns the type of a match."""
        data = self.program.makers.get(arms[0][0])
        makers = dict(self.program.data.get(data, ()))
        if sorted([arm[0] for arm in arms]) != sorted(makers):
            return self.refuse()
        self.expect(whole, (0, data), local)
        result = self.fresh()
        for maker, names, e in arms:
            self.need(len(names) == len(makers[maker]) and all_differ(names))
            self.expect(e, result, {**local, **dict(zip(names, makers[maker]))})
        return result
