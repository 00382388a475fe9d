import copy
import itertools
import random
import unittest

from quillrun.kinds import is_instance, replaced, scheme, unify

NUM, TEXT, LIST = (0, "num"), (0, "text"), (1, "num")


def solutions(equations, variables, most):
    """All choices of types with at most so many levels for the variables that make the equations hold."""
    kinds = [(levels, base) for levels in range(most + 1) for base in ("num", "d")]
    found = set()
    for chosen in itertools.product(kinds, repeat=len(variables)):
        choice = dict(zip(variables, chosen))
        if all(replaced(first, choice) == replaced(second, choice) for first, second in equations):
            found.add(chosen)
    return found


def bases(kinds):
    return {base for _, base in kinds}


class UnifyTest(unittest.TestCase):
    def assert_solved(self, equations, variable, expected):
        found = unify(equations)
        self.assertEqual(replaced(variable, found), expected)
        for first, second in equations:
            self.assertEqual(replaced(first, found), replaced(second, found))

    def test_no_equations(self):
        self.assertEqual(unify([]), {})

    def test_equal_types_need_no_choice(self):
        self.assertEqual(unify([(NUM, NUM), (LIST, LIST), ((3, "tree"), (3, "tree"))]), {})

    def test_two_bases_that_differ(self):
        for first, second in [("num", "text"), ("num", "bool"), ("tree", "num"), ("tree", "forest")]:
            self.assertIsNone(unify([((0, first), (0, second))]))
            self.assertIsNone(unify([((2, first), (2, second))]))

    def test_a_base_is_not_its_own_list(self):
        self.assertIsNone(unify([((0, "num"), (1, "num"))]))
        self.assertIsNone(unify([((3, "tree"), (1, "tree"))]))

    def test_a_variable_becomes_the_type_on_the_other_side(self):
        self.assertEqual(unify([((0, 0), (2, "num"))]), {0: (2, "num")})
        self.assertEqual(unify([((2, "num"), (0, 0))]), {0: (2, "num")})
        self.assertEqual(unify([((2, 5), (3, "tree"))]), {5: (1, "tree")})
        self.assertEqual(unify([((2, "text"), (2, 1))]), {1: (0, "text")})

    def test_a_base_with_fewer_lists_than_the_variable(self):
        self.assertIsNone(unify([((1, 0), (0, "num"))]))
        self.assertIsNone(unify([((2, "num"), (3, 0))]))

    def test_a_variable_against_itself(self):
        self.assertEqual(unify([((0, 0), (0, 0))]), {})
        self.assertEqual(unify([((4, 7), (4, 7))]), {})
        self.assertIsNone(unify([((0, 0), (1, 0))]))
        self.assertIsNone(unify([((3, 0), (2, 0))]))

    def test_a_variable_against_itself_through_others(self):
        self.assertIsNone(unify([((0, 0), (0, 1)), ((0, 1), (1, 0))]))
        self.assertIsNone(unify([((0, 0), (1, 1)), ((0, 1), (0, 2)), ((0, 2), (0, 0))]))
        self.assertIsNone(unify([((2, 0), (1, 1)), ((1, 1), (0, 0))]))
        self.assertIsNotNone(unify([((0, 0), (1, 1)), ((0, 1), (0, 2)), ((1, 2), (0, 0))]))

    def test_the_choice_is_the_most_general_one(self):
        found = unify([((0, 0), (1, 1))])
        self.assertEqual(replaced((0, 0), found), (1, replaced((0, 1), found)[1]))
        self.assertIsInstance(replaced((0, 0), found)[1], int)
        found = unify([((2, 0), (1, 1)), ((0, 2), (0, 1))])
        self.assertEqual(replaced((0, 1), found), (1, replaced((0, 0), found)[1]))
        self.assertEqual(replaced((0, 2), found), replaced((0, 1), found))
        self.assertEqual(replaced((0, 0), found)[0], 0)

    def test_chains_of_variables(self):
        chain = [((0, n), (1, n + 1)) for n in range(6)]
        self.assert_solved(chain + [((0, 6), NUM)], (0, 0), (6, "num"))
        self.assert_solved([((0, 6), NUM)] + chain, (0, 0), (6, "num"))
        self.assert_solved(chain[::-1] + [((0, 6), NUM)], (0, 3), (3, "num"))
        self.assert_solved(chain + [((0, 0), (9, "num"))], (0, 6), (3, "num"))
        self.assertIsNone(unify(chain + [((0, 0), (5, "num"))]))

    def test_a_later_equation_can_make_it_impossible(self):
        self.assertIsNone(unify([((0, 0), NUM), ((0, 0), TEXT)]))
        self.assertIsNone(unify([((0, 0), (0, 1)), ((0, 0), NUM), ((0, 1), TEXT)]))
        self.assertIsNone(unify([(NUM, TEXT), ((0, 0), NUM)]))

    def test_the_dict_names_variables_of_the_equations_only(self):
        for equations in [[((0, 3), (0, 9))], [((1, 3), (0, 9)), ((0, 4), (2, 3))], [((0, 3), NUM), (NUM, NUM)]]:
            found = unify(equations)
            named = {base for pair in equations for base in bases(pair)}
            self.assertLessEqual(set(found), {base for base in named if isinstance(base, int)})
            self.assertLessEqual(bases(found.values()), named)

    def test_the_list_stays_as_it_is(self):
        equations = [((0, 0), (1, 1)), ((0, 1), NUM), ((2, "num"), (0, 2))]
        before = copy.deepcopy(equations)
        unify(equations)
        self.assertEqual(equations, before)
        self.assertIsNone(unify(equations + [(NUM, TEXT)]))
        self.assertEqual(equations, before)

    def test_long_chains_take_no_long_time(self):
        many = 5000
        found = unify([((0, 0), (0, n)) for n in range(1, many)] + [((0, 0), NUM)])
        self.assertEqual({replaced((0, n), found) for n in range(many)}, {NUM})
        found = unify([((0, n), (1, n + 1)) for n in range(many)][::-1])
        self.assertEqual(replaced((0, 0), found), (many, replaced((0, many), found)[1]))

    def test_against_all_choices_of_small_types(self):
        chance = random.Random(27)
        refused = 0
        for _ in range(400):
            def kind():
                return (chance.randrange(3), chance.choice((0, 1, 2, 0, 1, 2, "num", "d")))
            equations = [(kind(), kind()) for _ in range(chance.randrange(1, 4))]
            found = unify(equations)
            expected = solutions(equations, (0, 1, 2), 4)
            if found is None:
                refused += 1
                self.assertEqual(expected, set(), equations)
            else:
                told = [((0, n), replaced((0, n), found)) for n in (0, 1, 2)]
                self.assertEqual(solutions(told, (0, 1, 2), 4), expected, equations)
                for _, (_, base) in told:
                    self.assertNotIn(base, found)
        self.assertTrue(100 < refused < 300, refused)


class ReplacedTest(unittest.TestCase):
    def test_types_without_variables_stay(self):
        self.assertEqual(replaced((2, "num"), {0: NUM}), (2, "num"))
        self.assertEqual(replaced((0, "tree"), {}), (0, "tree"))

    def test_a_variable_that_the_dict_does_not_name_stays(self):
        self.assertEqual(replaced((3, 4), {0: NUM, 1: (0, 0)}), (3, 4))

    def test_levels_are_added(self):
        self.assertEqual(replaced((2, 0), {0: (3, "num")}), (5, "num"))
        self.assertEqual(replaced((0, 0), {0: (0, "tree")}), (0, "tree"))

    def test_it_goes_on_until_no_variable_of_the_dict_is_left(self):
        found = {0: (1, 1), 1: (2, 2), 2: (0, 3), 3: (4, "text")}
        self.assertEqual(replaced((1, 0), found), (8, "text"))
        self.assertEqual(replaced((0, 2), found), (4, "text"))
        self.assertEqual(replaced((0, 0), {0: (1, 1), 1: (2, 2)}), (3, 2))

    def test_the_dict_stays_as_it_is(self):
        found = {0: (1, 1), 1: (2, 2)}
        replaced((0, 0), found)
        self.assertEqual(found, {0: (1, 1), 1: (2, 2)})


class SchemeTest(unittest.TestCase):
    def test_without_variables(self):
        self.assertEqual(scheme((), NUM), ((), NUM))
        self.assertEqual(scheme((NUM, (2, "tree")), TEXT), ((NUM, (2, "tree")), TEXT))

    def test_variables_are_numbered_through_the_arguments_and_then_the_result(self):
        self.assertEqual(scheme(((0, 7), (1, 3), (0, 7)), (2, 5)), (((0, 0), (1, 1), (0, 0)), (2, 2)))
        self.assertEqual(scheme(((1, 1), NUM, (0, 0)), (0, 1)), (((1, 0), NUM, (0, 1)), (0, 0)))
        self.assertEqual(scheme((), (1, 9)), ((), (1, 0)))

    def test_variables_that_have_their_numbers_stay(self):
        told = (((0, 0), (3, 1)), (0, 2))
        self.assertEqual(scheme(*told), told)

    def test_a_list_of_arguments_becomes_a_tuple(self):
        self.assertEqual(scheme([(0, 4)], (0, 4)), (((0, 0),), (0, 0)))


class IsInstanceTest(unittest.TestCase):
    def assert_instance(self, first, second, expected=True):
        self.assertIs(is_instance(first, second), expected)

    def test_a_scheme_without_variables_has_itself_only(self):
        told = ((NUM, (1, "tree")), TEXT)
        self.assert_instance(told, told)
        self.assert_instance(((NUM, (1, "tree")), NUM), told, False)
        self.assert_instance(((TEXT, (1, "tree")), TEXT), told, False)
        self.assert_instance(((NUM, (0, "tree")), TEXT), told, False)
        self.assert_instance(((NUM, (2, "tree")), TEXT), told, False)
        self.assert_instance(((NUM, (1, 0)), TEXT), told, False)

    def test_a_variable_stands_for_every_type(self):
        for kind in [NUM, (4, "tree"), (0, 0), (2, 3)]:
            self.assert_instance(((), kind), ((), (0, 0)))
            self.assert_instance(((kind,), kind), (((0, 0),), (0, 0)))

    def test_each_variable_has_one_type(self):
        told = (((0, 0), (0, 0)), (0, 1))
        self.assert_instance(((NUM, NUM), TEXT), told)
        self.assert_instance(((NUM, NUM), NUM), told)
        self.assert_instance(((NUM, TEXT), TEXT), told, False)
        self.assert_instance(((NUM, LIST), TEXT), told, False)
        self.assert_instance(((NUM,), TEXT), (((0, 0),), (0, 0)), False)

    def test_lists_of_a_variable(self):
        told = (((1, 0),), (0, 0))
        self.assert_instance((((1, "num"),), NUM), told)
        self.assert_instance((((3, "num"),), (2, "num")), told)
        self.assert_instance((((3, "num"),), (1, "num")), told, False)
        self.assert_instance(((NUM,), NUM), told, False)
        self.assert_instance(((), LIST), ((), (2, 0)), False)
        self.assert_instance(((), (2, "num")), ((), (2, 0)))
        self.assert_instance(((), (1, 0)), ((), (2, 0)), False)

    def test_variables_of_the_first_pair_are_not_replaced(self):
        self.assert_instance(((), (0, 0)), ((), NUM), False)
        self.assert_instance((((0, 0), (0, 1)), NUM), (((0, 0), (0, 0)), NUM), False)
        self.assert_instance((((0, 1), (0, 1)), NUM), (((0, 0), (0, 0)), NUM))
        self.assert_instance((((0, 1), (0, 0)), (0, 1)), (((0, 0), (0, 1)), (0, 0)))
        self.assert_instance((((1, 0),), (0, 0)), (((0, 0),), (0, 0)), False)
        self.assert_instance((((1, 0),), (1, 0)), (((0, 0),), (0, 0)))

    def test_another_number_of_arguments(self):
        self.assert_instance(((), NUM), (((0, 0),), NUM), False)
        self.assert_instance(((NUM,), NUM), ((), NUM), False)
        self.assert_instance(((NUM, NUM), NUM), ((NUM,), NUM), False)

    def test_the_order_of_the_arguments_counts(self):
        self.assert_instance(((TEXT, NUM), NUM), ((NUM, TEXT), NUM), False)
        self.assert_instance((((0, "num"),), (1, "num")), (((1, 0),), (0, 0)), False)


if __name__ == "__main__":
    unittest.main()
