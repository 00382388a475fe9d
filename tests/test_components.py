import copy
import random
import unittest

from quillrun.components import components


def plain_components(uses):
    """Point [23] word by word."""
    def reach(name):
        found, waiting = [], [name]
        while waiting:
            for used in uses[waiting.pop()]:
                if used in uses and used not in found:
                    found.append(used)
                    waiting.append(used)
        return found

    reached = {name: reach(name) for name in uses}
    groups = []
    for name in sorted(uses):
        group = [other for other in sorted(uses)
                 if other == name or (other in reached[name] and name in reached[other])]
        if group[0] == name:
            groups.append((len(set(reached[name] + [name])), group))
    return [group for _, group in sorted(groups)]


class ComponentsTest(unittest.TestCase):
    def assert_components(self, uses, expected):
        before = copy.deepcopy(uses)
        self.assertEqual(components(uses), expected)
        self.assertEqual(uses, before)
        self.assertEqual(list(uses), list(before))

    def test_no_names(self):
        self.assert_components({}, [])

    def test_one_name(self):
        self.assert_components({"a": []}, [["a"]])
        self.assert_components({"a": ["a"]}, [["a"]])
        self.assert_components({"a": ["a", "a", "b"]}, [["a"]])

    def test_what_a_name_uses_stands_before_it(self):
        self.assert_components({"a": ["b"], "b": ["c"], "c": []}, [["c"], ["b"], ["a"]])

    def test_names_that_are_not_there_are_ignored(self):
        self.assert_components({"b": ["x", "y"], "a": ["b", "z"]}, [["b"], ["a"]])
        self.assert_components({"b": ["x"], "a": []}, [["a"], ["b"]])

    def test_rings(self):
        self.assert_components({"b": ["a"], "a": ["b"]}, [["a", "b"]])
        self.assert_components({"c": ["a"], "b": ["c"], "a": ["b"], "d": ["a"], "e": []},
                               [["e"], ["a", "b", "c"], ["d"]])

    def test_two_rings_that_one_name_joins(self):
        self.assert_components({"a": ["b"], "b": ["a", "c"], "c": ["b"], "d": ["e"], "e": ["d", "c"]},
                               [["a", "b", "c"], ["d", "e"]])

    def test_the_lesser_number_of_reached_names_comes_first(self):
        self.assert_components({"a": ["b", "c"], "b": [], "c": [], "d": ["b"], "e": []},
                               [["b"], ["c"], ["e"], ["d"], ["a"]])

    def test_a_name_is_itself_counted_once(self):
        self.assert_components({"b": ["b"], "a": ["c"], "c": [], "d": []}, [["b"], ["c"], ["d"], ["a"]])

    def test_a_ring_counts_all_its_names(self):
        self.assert_components({"a": ["b"], "b": ["a"], "c": [], "z": ["c"]}, [["c"], ["a", "b"], ["z"]])

    def test_what_is_reached_twice_counts_once(self):
        self.assert_components({"a": ["b", "c"], "b": ["d"], "c": ["d"], "d": [], "e": ["f"], "f": ["g"],
                                "g": ["h"], "h": ["i"], "i": []},
                               [["d"], ["i"], ["b"], ["c"], ["h"], ["g"], ["a"], ["f"], ["e"]])

    def test_names_listed_twice(self):
        self.assert_components({"a": ["b", "b", "b"], "b": [], "c": ["b", "d"], "d": []},
                               [["b"], ["d"], ["a"], ["c"]])

    def test_the_order_of_names(self):
        names = ["b", "ab", "a", "a_", "a1", "aB"]
        self.assert_components({name: [] for name in names}, [["a"], ["a1"], ["aB"], ["a_"], ["ab"], ["b"]])
        self.assert_components({name: names for name in names}, [["a", "a1", "aB", "a_", "ab", "b"]])

    def test_the_returned_list_is_new(self):
        uses = {"a": ["b"], "b": ["a"]}
        found = components(uses)
        found[0].clear()
        found.clear()
        self.assert_components(uses, [["a", "b"]])

    def test_long_ways_and_large_rings(self):
        size = 3000
        for step in (1, -1):
            names = [f"n{k:05d}" for k in range(size)][::step]
            way = {name: [used] for name, used in zip(names, names[1:] + ["none"])}
            self.assertEqual(components(way), [[name] for name in names[::-1]])
            ring = {name: [used] for name, used in zip(names, names[1:] + names[:1])}
            self.assertEqual(components(ring), [sorted(names)])

    def test_random_uses(self):
        chance = random.Random(4)
        for _ in range(300):
            names = chance.sample("abcdefghijkl", chance.randrange(1, 9))
            uses = {name: chance.choices("abcdefghijkl", k=chance.randrange(4)) for name in names}
            self.assert_components(uses, plain_components(uses))


if __name__ == "__main__":
    unittest.main()
