import itertools
import random
import unittest

import texts
from quillrun.fitting import kinds_fit
from quillrun.values import has_kind
from texts import listed, made

PROGRAM = texts.program("""data color = Red | Dye(num)
data tree = Leaf | Node(tree, text, tree)
data box = Box(list color)
data out = Out(nothing)
""")
NUM, TEXT, BOOL, COLOR, TREE, BOX = (0, "num"), (0, "text"), (0, "bool"), (0, "color"), (0, "tree"), (0, "box")


def lists(levels, kind):
    return (kind[0] + levels, kind[1])


def a(levels=0, variable=0):
    return (levels, variable)


class FittingCase(unittest.TestCase):
    def assert_fits(self, values, *arguments):
        self.assertIs(kinds_fit(PROGRAM, values, arguments), True, (values, arguments))

    def assert_unfit(self, values, *arguments):
        self.assertIs(kinds_fit(PROGRAM, values, arguments), False, (values, arguments))


class WithoutVariablesTest(FittingCase):
    GIVEN = {NUM: [0, 5, -2 ** 200], TEXT: ["", "a"], BOOL: [True, False], COLOR: [made("Red"), made("Dye", 1)],
             TREE: [made("Leaf"), made("Node", made("Leaf"), "a", made("Leaf"))], BOX: [made("Box", listed()),
                                                                                     made("Box", listed(made("Dye", 2)))]}

    def test_each_type(self):
        for kind, values in self.GIVEN.items():
            for value in values:
                for other in self.GIVEN:
                    (self.assert_fits if kind == other else self.assert_unfit)([value], other)
                    self.assert_unfit([value], lists(1, other))
                    self.assert_unfit([listed(value)], other)
                    (self.assert_fits if kind == other else self.assert_unfit)([listed(value)], lists(1, other))

    def test_the_empty_list_has_every_list_type(self):
        for kind in self.GIVEN:
            self.assert_fits([listed()], lists(1, kind))
            self.assert_fits([listed()], lists(3, kind))
            self.assert_fits([listed(listed(), listed())], lists(2, kind))
            self.assert_unfit([listed()], kind)
            self.assert_unfit([listed(listed())], lists(1, kind))

    def test_a_boolean_is_no_number(self):
        self.assert_unfit([True], NUM)
        self.assert_unfit([1], BOOL)
        self.assert_unfit([listed(1, True)], lists(1, NUM))
        self.assert_unfit([made("Dye", True)], COLOR)

    def test_makers(self):
        self.assert_unfit([made("Red", 1)], COLOR)
        self.assert_unfit([made("Dye")], COLOR)
        self.assert_unfit([made("Dye", "a")], COLOR)
        self.assert_unfit([made("Dye", 1, 2)], COLOR)
        self.assert_unfit([made("Node", made("Leaf"), 1, made("Leaf"))], TREE)
        self.assert_unfit([made("Node", made("Leaf"), "a", made("Red"))], TREE)
        self.assert_unfit([made("Box", listed(made("Leaf")))], BOX)
        self.assert_unfit([made("Strange")], COLOR)
        # These data are not in force.
        self.assert_unfit([made("Out", 1)], (0, "out"))

    def test_one_for_one(self):
        self.assert_fits([])
        self.assert_unfit([1])
        self.assert_unfit([], NUM)
        self.assert_fits([1, "a"], NUM, TEXT)
        self.assert_unfit(["a", 1], NUM, TEXT)
        self.assert_unfit([1], NUM, NUM)
        self.assert_unfit([1, 1, 1], NUM, NUM)


class WithVariablesTest(FittingCase):
    ALL = [0, "", True, made("Red"), made("Node", made("Leaf"), "a", made("Leaf")), listed(), listed(1), listed("a"),
           listed(listed(), listed(2)), listed(made("Dye", 1), made("Red"))]

    def test_a_variable_stands_for_any_type(self):
        for value in self.ALL:
            self.assert_fits([value], a())
            self.assert_fits([value], a(0, 7))
            self.assert_fits([value, value], a(), a())
            self.assert_fits([value, listed(value, value)], a(), a(1))

    def test_different_variables(self):
        for one, other in itertools.product(self.ALL, self.ALL):
            self.assert_fits([one, other], a(0, 0), a(0, 1))

    def test_the_same_variable_twice(self):
        self.assert_fits([1, 2], a(), a())
        self.assert_unfit([1, "a"], a(), a())
        self.assert_unfit([1, True], a(), a())
        self.assert_unfit([False, 0], a(), a())
        self.assert_unfit([made("Red"), made("Leaf")], a(), a())
        self.assert_fits([made("Red"), made("Dye", 3)], a(), a())
        self.assert_unfit([1, listed(1)], a(), a())
        self.assert_unfit([listed(1), 1], a(), a())
        self.assert_fits([listed(1), 1], a(1), a())
        self.assert_unfit([listed(1), "a"], a(1), a())
        self.assert_fits([listed(), "a"], a(1), a())
        self.assert_fits([listed(listed()), listed("a"), listed()], a(1), a(), a())
        self.assert_unfit([1, "a", "a"], a(0, 1), a(0, 0), a(0, 1))

    def test_empty_lists(self):
        self.assert_fits([listed(), listed(1), listed("a")], a(), a(0, 1), a(0, 2))
        self.assert_fits([listed(), listed(1)], a(), a())
        self.assert_fits([listed(1), listed()], a(), a())
        self.assert_fits([listed(), listed()], a(), a())
        self.assert_unfit([listed(), 1], a(), a())
        self.assert_unfit([1, listed()], a(), a())
        self.assert_fits([listed()], a(5))
        self.assert_fits([listed(listed(), listed())], a(2))
        self.assert_fits([listed(listed(), listed())], a(1))
        self.assert_fits([listed(listed(), listed())], a(12))
        self.assert_unfit([listed(listed(), 1)], a(1))

    def test_lists_of_lists(self):
        self.assert_fits([listed(listed(), listed(listed(3)))], a(1))
        self.assert_unfit([listed(listed(4), listed(listed(3)))], a(1))
        self.assert_fits([listed(listed(listed())), listed(listed(listed(1)))], a(), a())
        self.assert_unfit([listed(listed(listed())), listed(listed(1))], a(), a())
        self.assert_unfit([5], a(1))
        self.assert_unfit([listed(5)], a(2))

    def test_lists_with_items_of_different_types(self):
        for one, other in ((1, "a"), (1, True), (made("Red"), made("Leaf")), (1, listed()), (listed(1), listed("a"))):
            self.assert_unfit([listed(one, other)], a())
            self.assert_unfit([listed(other, one)], a())
            self.assert_unfit([listed(one, other)], a(1))
            self.assert_unfit([listed(listed(), listed(other, one))], a(1))

    def test_makers(self):
        for wrong in (made("Red", 1), made("Dye"), made("Dye", "a"), made("Strange"), made("Out", 1),
                      made("Box", listed(made("Leaf")))):
            self.assert_unfit([wrong], a())
            self.assert_unfit([listed(wrong)], a())
            self.assert_unfit([listed(wrong)], a(1))
            self.assert_unfit([made("Red"), wrong], a(), a())
            self.assert_unfit([wrong, wrong], a(), a())

    def test_variables_beside_types(self):
        self.assert_fits([1, "a", listed("b")], NUM, a(), a(1))
        self.assert_unfit(["a", "a", listed("b")], NUM, a(), a(1))
        self.assert_unfit([1, "a", listed(1)], NUM, a(), a(1))
        self.assert_unfit([1], NUM, a())
        self.assert_unfit([1, 2, 3], NUM, a())


class AllTypesTest(FittingCase):
    """Tries all types for the variables."""
    KINDS = [lists(levels, kind) for levels in range(5) for kind in (NUM, TEXT, BOOL, COLOR, TREE)]

    def expected(self, values, arguments):
        if len(values) != len(arguments):
            return False
        for chosen in itertools.product(self.KINDS, repeat=2):
            kinds = [lists(levels, chosen[base]) if isinstance(base, int) else (levels, base) for levels, base in arguments]
            if all(has_kind(PROGRAM, value, kind) for value, kind in zip(values, kinds)):
                return True
        return False

    def a_value(self, chance, depth=3):
        if depth > 1 and chance.random() < 0.6:
            return ("list", tuple(self.a_value(chance, depth - 1) for _ in range(chance.choice((0, 0, 1, 1, 2)))))
        return chance.choice((1, 2, 3, 0, "a", True, made("Red"), made("Leaf"), made("Dye", 1), made("Dye", "a")))

    def test_against_all_types(self):
        chance = random.Random(61)
        found = {True: 0, False: 0}
        for _ in range(600):
            count = chance.randrange(1, 4)
            arguments = tuple(chance.choice((a(), a(), a(1), a(2), a(0, 1), a(1, 1), NUM, lists(1, TEXT)))
                              for _ in range(count))
            values = [self.a_value(chance) for _ in range(count)]
            expected = self.expected(values, arguments)
            found[expected] += 1
            self.assertIs(kinds_fit(PROGRAM, values, arguments), expected, (values, arguments))
        self.assertGreater(min(found.values()), 100)


if __name__ == "__main__":
    unittest.main()
