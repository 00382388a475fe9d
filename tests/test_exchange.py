import random
import unittest

from plain_workshop import PlainWorkshop, told_by
from quillrun.edits import again_deed, back_deed, edit_deed, lacking, received
from quillrun.errors import NothingToTakeBack, PowerOff, UnfitArguments
from quillrun.fitting import kinds_fit
from quillrun.codes import write_packet
from quillrun.log import read_log
from quillrun.reading import Reader
from quillrun.workshop import Workshop
from texts import listed, made

ZEROS = [0] * 8
MODULES = ("m", "n", "a long name")
LINES = ("cell n : num = 1\n", "cell n : num = 2 turn f\n", "cell n : text = 'a'\n", "cell l : list num = [] turn wrap\n",
         "cell l : num = 7 turn first\n", "cell c : d = D\n", "cell c : list d = [D] turn wrap\n", "data d = D | E(num)\n",
         "data d = E(num) | D\n", "data d = D\n", "data e = F(d) | G(list e)\n", "fun f(x) = x + 1\n", "fun f(x) = x\n",
         "fun wrap(x) = [x]\n", "fun first(x) = case x of [] -> 0; h :: t -> h end\n", "fun g(x, y) = if x < 1 then y else g(x - 1, f(y))\n",
         "fun h(x) = case x of D -> 1; E(k) -> k end\n", "fun big(x) = x * x * x\n", "view v = n\n", "view w = [v, f(n)]\n",
         "view v = g(3, n) / (n - 2)\n", "view u = case w of [] -> l; h :: t -> l end\n", "view u = h(c)\n", "view t = u\n",
         "view r = t + v\n", "act set(x) = n := x then v\n", "act push(x) = l := x :: l, n := f(n) then l\n",
         "act swap() = n := l, l := n then n + l\n", "act make(x) = c := E(x) then c\n", "act none(x) = then big(x)\n",
         "act off(x) = n := 1 / x, l := [x] then n\n", "5 apples\n", "fun (\n", "view open = 'x\n", "  more", "\n", "view v2 = v\n")
NAMES = ("n", "l", "c", "f", "g", "h", "wrap", "first", "big", "v", "w", "u", "t", "r", "set", "push", "swap", "make", "none", "off",
         "d", "v2", "e", "stranger")
VALUES = (0, 1, -3, 2 ** 60, "a", True, listed(), listed(1, 2), made("D"), made("E", 4), listed(made("D")), 2 ** 100,
          made("G", listed()), made("E", "a"))


def name_of(row):
    """The words of a row that tell what it makes."""
    return row.split("(")[0].split()[1:2]


def rows_of(base):
    """All rows of all modules: module, index, row."""
    found = []
    for module in base.deeds.modules():
        index = 0
        for row in base.deeds.text(module).splitlines(True):
            found.append((module, index, row))
            index += len(row)
    return found


def an_edit(chance, base):
    """An edit of a whole row, or sometimes of single characters."""
    rows = rows_of(base)
    if rows and chance.random() < 0.15:
        module, index, row = chance.choice(rows)
        start = chance.randrange(len(row))
        return module, index + start, min(chance.randrange(3), len(row) - start), chance.choice(("", "x", "1", "\n", "'"))
    if rows and chance.random() < 0.2:
        module, index, row = chance.choice(rows)
        return module, index, len(row), ""
    line = chance.choice(LINES)
    old = [row for row in rows if name_of(row[2]) == name_of(line)]
    if old and chance.random() < 0.9:
        module, index, row = chance.choice(old)
        return module, index, len(row), line
    module = chance.choice(MODULES)
    return module, chance.choice([0, *[index for other, index, _ in rows if other == module]]), 0, line


class Pair:
    """A workshop, and the plain workshop that must tell the same."""

    def __init__(self, test, chance, replica):
        self.test, self.chance = test, chance
        self.workshop, self.plain = Workshop(replica), PlainWorkshop(replica)
        self.failures = 0

    def same(self):
        self.test.assertEqual(repr(told_by(self.workshop, NAMES)), repr(self.plain.told(NAMES)))
        index = 0 if self.plain.turn % 2 else 1
        self.test.assertEqual((self.workshop.log(index), self.workshop.log(1 - index)), (self.plain.log, []))

    def both(self, call, commit):
        """A call of the workshop; `commit` does the same to the plain one and returns what must be returned."""
        if self.chance.random() < 0.1:
            self.workshop.fail_after(self.chance.choice((0, 1, 5, 30, self.chance.randrange(400))))
        try:
            found = call(self.workshop)
        except PowerOff:
            self.fall(commit)
        else:
            self.test.assertEqual(repr(found), repr(commit(self.plain)))
        self.same()
        return None

    def fall(self, commit):
        """Power has failed: what opens has the base before or after the commit."""
        self.failures += 1
        before = (self.plain.base.data(), self.plain.turn, self.plain.log)
        self.workshop.power(self.chance.randrange(300), self.chance.randrange(300))
        while True:
            try:
                if self.chance.random() < 0.5:
                    self.workshop.fail_after(self.chance.randrange(5))
                self.workshop.open_again()
                break
            except PowerOff:
                self.workshop.power(self.chance.randrange(3), self.chance.randrange(3))
        log = self.workshop.log(0) or self.workshop.log(1)
        if (read_log(log)[1].data(), read_log(log)[0]) != before[:2] or log != before[2]:
            commit(self.plain)
        self.test.assertEqual(read_log(log)[1].data(), self.plain.base.data())
        self.plain.opened(self.plain.base)
        self.same()

    def edit(self):
        given = an_edit(self.chance, self.plain.base)
        self.both(lambda one: one.edit(*given), lambda plain: plain.own(edit_deed(plain.base.deeds, *given)))

    def take_back(self):
        word, deed = self.chance.choice((("back", back_deed), ("again", again_deed)))
        try:
            deed(self.plain.base.deeds, self.plain.replica)
        except NothingToTakeBack:
            with self.test.assertRaises(NothingToTakeBack):
                getattr(self.workshop, word)()
        else:
            self.both(lambda one: getattr(one, word)(), lambda plain: plain.own(deed(plain.base.deeds, plain.replica)))

    def receive(self, packet):
        def commit(plain):
            taken = received(plain.base.deeds, Reader(packet).read_packet())[1]
            if taken:
                plain.commit(taken)
            return len(taken)
        self.both(lambda one: one.receive(packet), commit)

    def tidy(self):
        self.both(lambda one: one.tidy(), lambda plain: plain.tidied())

    def view(self):
        name = self.a_name(("view", "view", "cell"))
        self.both(lambda one: one.view(name), lambda plain: plain.view(name))
        found = self.plain.view(name)[0]
        if name in self.plain.program.schemes and self.plain.program.find(name)[0] == "view":
            self.allowed(found, [], self.plain.program.schemes[name])
        elif name in self.plain.program.cells:
            self.allowed(found, [], ((), self.plain.program.cells[name]))
        else:
            self.test.assertEqual(found, ("fault", ("missing", name)))

    def a_name(self, sorts):
        """Mostly the name of such a definition in force."""
        names = [one[1] for one in self.plain.program.force if one[0] == self.chance.choice(sorts)]
        return self.chance.choice(names if names and self.chance.random() < 0.9 else NAMES)

    def run(self, word, sort):
        name = self.a_name((sort,))
        one = self.plain.program.find(name)
        count = len(one[2]) if one is not None and one[0] == sort else 1
        values = [self.chance.choice(VALUES) for _ in range(count)]
        if one is not None and one[0] == sort:
            scheme = self.plain.program.schemes[name]
            fits = kinds_fit(self.plain.program, values, scheme[0]) and 2 ** 100 not in values
            if not fits:
                with self.test.assertRaises(UnfitArguments):
                    getattr(self.workshop, word)(name, values)
                return
            self.allowed(getattr(PlainWorkshop, "call" if word == "call" else "act")(Copy(self.plain), name, values)[0],
                         values, scheme)
        self.both(lambda one: getattr(one, word)(name, values), lambda plain: getattr(plain, word)(name, values))

    def allowed(self, outcome, values, scheme):
        """Point [61], 5."""
        if outcome[0] == "value":
            kinds = (*scheme[0], scheme[1])
            self.test.assertTrue(kinds_fit(self.plain.program, [*values, outcome[1]], kinds), (outcome, values, scheme))
        else:
            self.test.assertIn(outcome[1][0], ("division", "deep", "large", "long"))


class Copy(PlainWorkshop):
    """The same at one time, so that an act does not set anything."""

    def __init__(self, plain):
        self.program, self.base = plain.program, plain.base

    def commit(self, triples, cells=()):
        pass


class ExchangeTest(unittest.TestCase):
    def test_runs_of_several_workshops(self):
        failures = 0
        for seed in range(25):
            chance = random.Random(seed)
            pairs = [Pair(self, chance, replica) for replica in chance.sample(range(8), 3)]
            packets = [self.start(chance, pairs)]
            for _ in range(70):
                self.step(chance, pairs, packets)
            failures += sum(pair.failures for pair in pairs)
            self.assert_the_same_in_the_end(pairs)
        self.assertGreater(failures, 50)

    def start(self, chance, pairs):
        """Some rows from which all begin; returns their packet."""
        text = "".join({row.split("(")[0].split()[1]: row for row in chance.sample(LINES[:30], 30)}.values())
        workshop = Workshop(chance.choice([k for k in range(8) if k not in [pair.plain.replica for pair in pairs]]))
        workshop.edit("m", 0, 0, text)
        packet = workshop.packet(ZEROS)
        for pair in pairs:
            pair.receive(packet)
        return packet

    def step(self, chance, pairs, packets):
        pair = chance.choice(pairs)
        word = chance.choice(("edit",) * 6 + ("back", "send", "send", "send", "receive", "receive", "receive", "tidy", "view",
                                              "view", "view", "call", "call", "act", "act", "act"))
        if word == "edit":
            pair.edit()
        elif word == "back":
            pair.take_back()
        elif word == "send":
            counts = chance.choice((ZEROS, chance.choice(pairs).plain.base.deeds.counts(), [chance.randrange(4) for _ in range(8)]))
            packet = pair.workshop.packet(counts)
            self.assertEqual(packet, write_packet(lacking(pair.plain.base.deeds, counts)))
            packets.append(packet)
        elif word == "receive" and packets:
            # Late, twice, in any order; those that are never chosen are lost.
            pair.receive(chance.choice(packets))
        elif word == "tidy":
            pair.tidy()
        elif word == "view":
            pair.view()
        elif word in ("call", "act"):
            pair.run(word, "fun" if word == "call" else "act")

    def assert_the_same_in_the_end(self, pairs):
        """Point [61], 3: the same counts, hence the same texts, programs, problems and codes."""
        for _ in range(2):
            for one in pairs:
                for other in pairs:
                    packet = one.workshop.packet(other.workshop.counts())
                    try:
                        other.workshop.receive(packet)
                    except PowerOff:
                        other.workshop.power(0, 0)
                        other.workshop.open_again()
                        other.workshop.receive(packet)
        told = []
        for pair in pairs:
            found = told_by(pair.workshop, NAMES)
            told.append(repr((found[:4], found[6])))
        self.assertEqual(told, [told[0]] * len(told))

    def test_cells_whose_shape_stays(self):
        """Point [61], 4: also through a removal and a return of the definition, and with power failing."""
        workshop, other = Workshop(0), Workshop(1)
        workshop.edit("m", 0, 0, "cell n : num = 1\nact set(x) = n := x then n\n")
        other.receive(workshop.packet(ZEROS))
        workshop.act("set", [5])
        other.act("set", [6])
        other.edit("m", 0, 17, "")
        other.edit("k", 0, 0, "view v = n\n")
        workshop.receive(other.packet(ZEROS))
        self.assertEqual(workshop.cells(), [("n", "num", False, ("value", 5))])
        workshop.power(0, 0)
        workshop.open_again()
        workshop.tidy()
        workshop.edit("a", 0, 0, "cell n : num = 1 / 0 turn set\n")
        workshop.edit("a", 21, 9, "\n")
        self.assertEqual(workshop.view("v")[0], ("value", 5))
        other.receive(workshop.packet(other.counts()))
        self.assertEqual((other.view("v")[0], other.cells()), (("value", 6), [("n", "num", True, ("value", 6))]))


if __name__ == "__main__":
    unittest.main()
