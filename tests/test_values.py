import unittest

import texts
from quillrun.values import depth, has_kind, is_large, same, size, write_value


def listed(*items):
    return ("list", items)


def made(maker, *arguments):
    return ("make", maker, arguments)


def nested(levels, inside=1):
    """A value in so many lists."""
    for _ in range(levels):
        inside = listed(inside)
    return inside


def wide(items):
    return ("list", (1,) * items)


# No two of them are the same.
DIFFERENT = [
    0, 1, -1, 2 ** 70, True, False, "", "a", "b", "0", "true", listed(), listed(0), listed(False), listed(1), listed(True),
    listed(1, 1), listed(1, True), listed(listed()), listed(listed(), listed()), listed(""), listed("A"), made("A"),
    made("B"), made("A", 1), made("A", True), made("A", listed()), made("A", 1, 1), listed(made("A")),
    listed(made("A", 1)), made("A", made("A")), made("list"), "list", "A", listed(listed(1)), listed(listed(True)),
]


class SameTest(unittest.TestCase):
    def test_every_value_is_the_same_as_itself_only(self):
        for place, first in enumerate(DIFFERENT):
            for other, second in enumerate(DIFFERENT):
                self.assertIs(same(first, second), place == other, (first, second))

    def test_a_boolean_is_never_an_integer(self):
        for number, truth in ((1, True), (0, False)):
            self.assertFalse(same(number, truth))
            self.assertFalse(same(truth, number))
            self.assertFalse(same(made("A", listed(2, number)), made("A", listed(2, truth))))
            self.assertFalse(same(nested(30, number), nested(30, truth)))

    def test_equal_parts_that_are_built_apart(self):
        self.assertTrue(same(made("A", listed("ab", 1)), made("A", listed("a" + "b", 2 - 1))))
        self.assertTrue(same(nested(45), nested(45)))
        self.assertFalse(same(nested(45), nested(44)))
        self.assertFalse(same(listed(1, 2), listed(2, 1)))


class SizeTest(unittest.TestCase):
    def test_plain_values(self):
        for value in (0, -5, 10 ** 40, True, False, "", listed(), made("A"), made("Long_Maker")):
            self.assertEqual(size(value), 1, value)

    def test_the_length_of_a_string_counts(self):
        self.assertEqual(size("a"), 2)
        self.assertEqual(size("abc\n'"), 6)

    def test_items_and_arguments_count(self):
        self.assertEqual(size(listed(1, True, "ab")), 6)
        self.assertEqual(size(made("Long", 1, 2)), 3)
        self.assertEqual(size(listed(listed(), listed(1), made("A", "a", listed(1)))), 9)
        self.assertEqual(size(nested(40)), 41)


class DepthTest(unittest.TestCase):
    def test_plain_values(self):
        for value in (0, True, "", "abc", listed(), made("A")):
            self.assertEqual(depth(value), 1, value)

    def test_the_deepest_part_counts(self):
        self.assertEqual(depth(listed(1)), 2)
        self.assertEqual(depth(made("A", 1, "a")), 2)
        self.assertEqual(depth(listed(1, nested(2), 1)), 4)
        self.assertEqual(depth(made("A", nested(1), made("B", made("C", 1)))), 4)
        self.assertEqual(depth(listed(nested(3), 1)), 5)
        self.assertEqual(depth(nested(40)), 41)


class IsLargeTest(unittest.TestCase):
    def assert_large(self, value, expected):
        self.assertIs(is_large(value), expected)

    def test_integers(self):
        for number, expected in ((0, False), (2 ** 100 - 1, False), (2 ** 100, True), (2 ** 100 + 1, True),
                                 (2 ** 200, True), (2 ** 99, False), (10 ** 30, False)):
            self.assert_large(number, expected)
            self.assert_large(-number, expected)

    def test_booleans(self):
        self.assert_large(True, False)
        self.assert_large(False, False)

    def test_size(self):
        self.assert_large("a" * 998, False)
        self.assert_large("a" * 999, False)
        self.assert_large("a" * 1000, True)
        self.assert_large(wide(998), False)
        self.assert_large(wide(999), False)
        self.assert_large(wide(1000), True)
        self.assert_large(listed("a" * 499, "b" * 498), False)
        self.assert_large(listed("a" * 499, "b" * 499), True)
        self.assert_large(made("A", *[1] * 999), False)
        self.assert_large(made("A", *[1] * 1000), True)

    def test_the_length_of_a_maker_does_not_count(self):
        self.assert_large(made("A" * 2000), False)

    def test_depth(self):
        for levels, expected in ((38, False), (39, False), (40, True), (41, True)):
            self.assert_large(nested(levels), expected)
            self.assert_large(made("A", nested(levels - 1)), expected)
            self.assert_large(listed(1, nested(levels - 1), nested(2)), expected)


class WriteValueTest(unittest.TestCase):
    def assert_written(self, value, expected):
        self.assertEqual(write_value(value), expected)

    def test_numbers(self):
        self.assert_written(0, "0")
        self.assert_written(120, "120")
        self.assert_written(-7, "-7")
        self.assert_written(-(2 ** 99), "-633825300114114700748351602688")

    def test_texts(self):
        self.assert_written("", "''")
        self.assert_written("ab c", "'ab c'")
        self.assert_written("it's", "'it''s'")
        self.assert_written("''", "''''''")
        self.assert_written("a\nb", "'a\nb'")

    def test_booleans(self):
        self.assert_written(True, "true")
        self.assert_written(False, "false")

    def test_lists(self):
        self.assert_written(listed(), "[]")
        self.assert_written(listed(1), "[1]")
        self.assert_written(listed(1, 2), "[1, 2]")
        self.assert_written(listed(listed(), listed("a", "b")), "[[], ['a', 'b']]")

    def test_makes(self):
        self.assert_written(made("Leaf"), "Leaf")
        self.assert_written(made("A", 1), "A(1)")
        self.assert_written(made("A", 1, listed(2)), "A(1, [2])")
        self.assert_written(made("Maker", made("B"), made("C", -1, False)), "Maker(B, C(-1, false))")

    def test_values_that_are_written_without_a_minus_are_read_again(self):
        for value in [0, "it's", True, listed(1, listed()), made("A", "a", listed(made("B")))]:
            self.assertEqual(texts.expression(write_value(value)), tree(value))


def tree(value):
    if isinstance(value, bool):
        return ("bool", value)
    if isinstance(value, int):
        return ("number", value)
    if isinstance(value, str):
        return ("text", value)
    return (*value[:-1], tuple(map(tree, value[-1])))


class HasKindTest(unittest.TestCase):
    PROGRAM = texts.program("""data color = Red | Green
data tree = Leaf | Node(tree, num, tree)
data box = Box(list list text, bool)
data bad = Bad(missing)
data gone = Gone | Gone
""")
    KINDS = [(levels, base) for levels in range(4)
             for base in ("num", "text", "bool", "color", "tree", "box", "bad", "gone", "stranger")]

    def assert_kinds(self, value, *expected):
        found = [kind for kind in self.KINDS if has_kind(self.PROGRAM, value, kind)]
        self.assertEqual(sorted(found), sorted(expected), value)

    def test_plain_values(self):
        self.assert_kinds(1, (0, "num"))
        self.assert_kinds(-(2 ** 120), (0, "num"))
        self.assert_kinds("num", (0, "text"))
        self.assert_kinds("", (0, "text"))
        self.assert_kinds(True, (0, "bool"))
        self.assert_kinds(False, (0, "bool"))

    def test_true_and_false_only(self):
        self.assertIs(has_kind(self.PROGRAM, 1, (0, "num")), True)
        self.assertIs(has_kind(self.PROGRAM, 1, (0, "bool")), False)

    def test_lists(self):
        self.assert_kinds(listed(1), (1, "num"))
        self.assert_kinds(listed(1, 2, 3), (1, "num"))
        self.assert_kinds(listed("a", "b"), (1, "text"))
        self.assert_kinds(listed(True), (1, "bool"))
        self.assert_kinds(listed(1, "a"))
        self.assert_kinds(listed("a", 1))
        self.assert_kinds(listed(1, True))
        self.assert_kinds(listed(made("Red"), made("Green")), (1, "color"))
        self.assert_kinds(listed(made("Red"), made("Leaf")))
        self.assert_kinds(listed(*range(9)), (1, "num"))
        self.assert_kinds(listed(*range(9), "a"))

    def test_the_empty_list_has_every_list_type(self):
        self.assert_kinds(listed(), *[kind for kind in self.KINDS if kind[0] > 0])

    def test_lists_of_lists(self):
        self.assert_kinds(listed(listed(1), listed(), listed(2, 3)), (2, "num"))
        self.assert_kinds(listed(listed(), listed()), *[kind for kind in self.KINDS if kind[0] > 1])
        self.assert_kinds(listed(listed(listed("a"))), (3, "text"))
        self.assert_kinds(listed(listed(), listed(listed())), *[kind for kind in self.KINDS if kind[0] > 2])
        self.assert_kinds(listed(listed(1), 1))
        self.assert_kinds(listed(listed(1), listed("a")))
        self.assert_kinds(listed(1, listed()))

    def test_makes(self):
        self.assert_kinds(made("Red"), (0, "color"))
        self.assert_kinds(made("Leaf"), (0, "tree"))
        self.assert_kinds(made("Node", made("Leaf"), 1, made("Node", made("Leaf"), -5, made("Leaf"))), (0, "tree"))
        self.assert_kinds(made("Box", listed(), True), (0, "box"))
        self.assert_kinds(made("Box", listed(listed("a"), listed()), False), (0, "box"))

    def test_other_numbers_of_arguments(self):
        self.assert_kinds(made("Red", 1))
        self.assert_kinds(made("Node"))
        self.assert_kinds(made("Node", made("Leaf"), 1))
        self.assert_kinds(made("Node", made("Leaf"), 1, made("Leaf"), 1))

    def test_arguments_of_other_types(self):
        self.assert_kinds(made("Node", made("Leaf"), "a", made("Leaf")))
        self.assert_kinds(made("Node", made("Leaf"), True, made("Leaf")))
        self.assert_kinds(made("Node", made("Red"), 1, made("Leaf")))
        self.assert_kinds(made("Node", made("Leaf"), 1, made("Node", made("Leaf"), 1, made("Red"))))
        self.assert_kinds(made("Box", listed("a"), True))
        self.assert_kinds(made("Box", listed(listed(1)), True))
        self.assert_kinds(made("Box", True, listed()))

    def test_makers_of_nothing_in_force(self):
        self.assert_kinds(made("Bad", 1))
        self.assert_kinds(made("Gone"))
        self.assert_kinds(made("Stranger"))
        self.assert_kinds(made("color"))
        self.assert_kinds(listed(made("Gone")))


if __name__ == "__main__":
    unittest.main()
