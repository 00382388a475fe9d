"""Points [33] and [34] word by word, with a call of Python for each expression."""


class Fault(Exception):
    pass


class PlainRun:
    def __init__(self, program, held):
        self.program, self.held = program, held
        self.steps = self.calls = 0
        self.reads = []

    def outcome(self, e, names, values):
        try:
            return ("value", self.value(e, list(zip(names, values)), 0))
        except Fault as fault:
            return ("fault", fault.args)

    def outcome_of_call(self, name, values):
        try:
            return ("value", self.call(name, values, 1))
        except Fault as fault:
            return ("fault", fault.args)

    def read(self, name):
        if name not in self.reads:
            self.reads.append(name)

    def value(self, e, local, depth):
        self.steps += 1
        word = e[0]
        if word in ("number", "text", "bool"):
            return e[1]
        if word == "name":
            for name, value in local[::-1]:
                if name == e[1]:
                    return value
            return self.told(e[1])
        if word in ("list", "make", "call"):
            values = tuple(self.value(part, local, depth) for part in e[-1])
            if word == "call":
                return self.call(e[1], values, depth + 1)
            return self.small((*e[:-1], values))
        first = self.value(e[2] if word in ("binary", "let") else e[1], local, depth)
        if word == "not":
            self.need(isinstance(first, bool))
            return not first
        if word == "let":
            return self.value(e[3], local + [(e[1], first)], depth)
        if word == "if":
            self.need(isinstance(first, bool))
            return self.value(e[2] if first else e[3], local, depth)
        if word == "binary" and e[1] in ("and", "or"):
            self.need(isinstance(first, bool))
            return first if first == (e[1] == "or") else self.value(e[3], local, depth)
        if word == "split":
            self.need(is_form(first, "list"))
            if not first[1]:
                return self.value(e[2], local, depth)
            return self.value(e[5], local + [(e[3], first[1][0]), (e[4], ("list", first[1][1:]))], depth)
        if word == "match":
            self.need(is_form(first, "make"))
            arms = [arm for arm in e[2] if arm[0] == first[1]]
            self.need(arms and len(arms[0][1]) == len(first[2]))
            return self.value(arms[0][2], local + list(zip(arms[0][1], first[2])), depth)
        second = self.value(e[3] if word == "binary" else e[2], local, depth)
        if word == "cons":
            self.need(is_form(second, "list"))
            return self.small(("list", (first, *second[1])))
        return self.small(self.operator(e[1], first, second))

    def operator(self, operator, first, second):
        if operator == "=":
            return marked(first) == marked(second)
        kind = str if operator == "++" else int
        self.need(all(isinstance(side, kind) and not isinstance(side, bool) for side in (first, second)))
        if operator in ("/", "mod"):
            if second == 0:
                raise Fault("division")
            quotient = abs(first) // abs(second) * (1 if (first < 0) == (second < 0) else -1)
            return quotient if operator == "/" else first - second * quotient
        return {"+": lambda: first + second, "-": lambda: first - second, "*": lambda: first * second,
                "++": lambda: first + second, "<": lambda: first < second}[operator]()

    def told(self, name):
        self.read(name)
        found = self.program.find(name)
        if found is None or found[0] not in ("cell", "view"):
            raise Fault("missing", name)
        if found[0] == "cell":
            word, told = self.held[name]
        else:
            view = PlainRun(self.program, self.held)
            word, told = view.outcome(found[2], (), ())
            for other in view.reads:
                self.read(other)
        if word == "fault":
            raise Fault(*told)
        return told

    def call(self, name, values, depth):
        self.read(name)
        found = self.program.find(name)
        if depth > 12:
            raise Fault("deep")
        if found is None or found[0] != "fun":
            raise Fault("missing", name)
        if self.calls == 100:
            raise Fault("long")
        self.calls += 1
        self.need(len(found[2]) == len(values))
        return self.value(found[3], list(zip(found[2], values)), depth)

    def need(self, holds):
        if not holds:
            raise Fault("stuck")

    def small(self, value):
        if isinstance(value, int) and not isinstance(value, bool) and abs(value) >= 2 ** 100:
            raise Fault("large")
        if size(value) > 1000 or depth(value) > 40:
            raise Fault("large")
        return value


def is_form(value, word):
    return isinstance(value, tuple) and value[0] == word


def parts(value):
    return value[-1] if isinstance(value, tuple) else ()


def marked(value):
    """The value with its kinds, so that True differs from 1."""
    return (type(value), value[:-1], list(map(marked, value[-1]))) if parts(value) else (type(value), value)


def size(value):
    return 1 + (len(value) if isinstance(value, str) else sum(map(size, parts(value))))


def depth(value):
    return 1 + max(map(depth, parts(value)), default=0)
