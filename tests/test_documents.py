import itertools
import random
import unittest

import plain_documents
from quillrun.documents import REPLICAS, Deeds


def deeds_of(*told):
    """Deeds of pairs (replica, deed)."""
    deeds = Deeds()
    for replica, deed in told:
        deeds.add(replica, deed)
    return deeds


def change(number, text, behind=None, removed=(), module="m"):
    return ("change", module, removed, behind, number, text)


class DeedsTest(unittest.TestCase):
    def test_there_are_eight_replicas(self):
        self.assertEqual(REPLICAS, 8)
        self.assertEqual(Deeds().rows, [[], [], [], [], [], [], [], []])
        self.assertEqual(Deeds().counts(), [0] * 8)

    def test_deeds_are_appended_to_the_list_of_their_replica(self):
        deeds = Deeds()
        self.assertIsNone(deeds.add(3, change(1, "a")))
        deeds.add(7, change(1, "b"))
        deeds.add(3, ("back", 1))
        self.assertEqual(deeds.counts(), [0, 0, 0, 2, 0, 0, 0, 1])
        self.assertEqual(deeds.rows[3], [change(1, "a"), ("back", 1)])
        self.assertEqual(deeds.rows[7], [change(1, "b")])

    def test_deeds_are_added_without_a_check(self):
        deeds = deeds_of((0, ("back", 9)), (0, change(0, "", module="")), (0, change(5, "a", (99, 1), ((98, 2),))))
        self.assertEqual(deeds.counts()[0], 3)

    def test_returned_lists_are_new(self):
        deeds = deeds_of((0, change(1, "ab")))
        for returned in (deeds.counts(), deeds.modules(), deeds.row("m")):
            returned.clear()
        self.assertEqual(deeds.counts()[0], 1)
        self.assertEqual(deeds.modules(), ["m"])
        self.assertEqual(deeds.text("m"), "ab")

    def test_two_objects_share_nothing(self):
        deeds_of((0, change(1, "ab")))
        self.assertEqual(Deeds().counts(), [0] * 8)
        self.assertEqual(Deeds().modules(), [])


class CopyTest(unittest.TestCase):
    def setUp(self):
        self.deeds = deeds_of((0, change(1, "ab")), (1, change(3, "c", (1, 0))), (1, ("back", 1)))
        self.copied = self.deeds.copy()

    def test_a_copy_tells_the_same(self):
        self.assertEqual(self.copied.rows, self.deeds.rows)
        self.assertEqual(self.copied.row("m"), self.deeds.row("m"))
        self.assertEqual(self.copied.last_number(), 4)
        self.assertTrue(self.copied.fits(2, change(4, "", (3, 1))))

    def test_a_change_of_the_copy_leaves_the_original(self):
        self.copied.add(0, change(9, "xyz", module="n"))
        self.copied.rows[5].append(change(1, ""))
        self.assertEqual(self.deeds.counts(), [1, 2, 0, 0, 0, 0, 0, 0])
        self.assertEqual(self.deeds.modules(), ["m"])
        self.assertEqual(self.deeds.last_number(), 4)
        self.assertFalse(self.deeds.fits(1, change(20, "", (9, 0), module="n")))

    def test_a_change_of_the_original_leaves_the_copy(self):
        self.deeds.add(0, change(9, "xyz", None))
        self.deeds.rows.append([])
        self.assertEqual(self.copied.text("m"), "ab")
        self.assertEqual(len(self.copied.rows), 8)


class InForceTest(unittest.TestCase):
    def assert_force(self, expected, *deeds):
        known = deeds_of(*[(2, deed) for deed in deeds])
        found = [known.in_force(2, place) for place in range(1, len(deeds) + 1)]
        self.assertEqual(found, expected)
        self.assertTrue(all(isinstance(stands, bool) for stands in found))

    def test_a_deed_that_nothing_takes_back_is_in_force(self):
        self.assert_force([True, True], change(1, "a"), change(2, "b"))

    def test_a_deed_that_was_taken_back(self):
        self.assert_force([True, False, True], change(1, "a"), change(2, "b"), ("back", 2))

    def test_a_taking_back_that_was_itself_taken_back(self):
        self.assert_force([True, False, True], change(1, "a"), ("back", 1), ("back", 2))
        self.assert_force([False, True, False, True], change(1, "a"), ("back", 1), ("back", 2), ("back", 3))

    def test_several_takings_back_of_one_deed(self):
        self.assert_force([False, True, True], change(1, "a"), ("back", 1), ("back", 1))
        self.assert_force([False, False, True, True], change(1, "a"), ("back", 1), ("back", 1), ("back", 2))
        self.assert_force([True, False, False, True, True],
                          change(1, "a"), ("back", 1), ("back", 1), ("back", 2), ("back", 3))

    def test_a_replica_takes_back_its_own_deeds_only(self):
        deeds = deeds_of((0, change(1, "a")), (1, change(1, "b")), (1, ("back", 1)))
        self.assertTrue(deeds.in_force(0, 1))
        self.assertFalse(deeds.in_force(1, 1))


class RowTest(unittest.TestCase):
    def test_the_characters_of_a_change_stand_behind_one_another(self):
        deeds = deeds_of((4, change(7, "abc")))
        self.assertEqual(deeds.row("m"), [((7, 4), "a", True), ((8, 4), "b", True), ((9, 4), "c", True)])
        self.assertEqual(deeds.text("m"), "abc")

    def test_the_greater_mark_stands_nearer_to_the_character_before(self):
        deeds = deeds_of((0, change(1, "ab")), (0, change(3, "X", (1, 0))), (1, change(5, "Y", (1, 0))))
        self.assertEqual(deeds.text("m"), "aYXb")

    def test_the_same_number_of_two_replicas_is_ordered_by_the_replica(self):
        deeds = deeds_of((0, change(1, "a")), (5, change(2, "Q", (1, 0))), (3, change(2, "P", (1, 0))))
        self.assertEqual(deeds.row("m"), [((1, 0), "a", True), ((2, 5), "Q", True), ((2, 3), "P", True)])

    def test_many_replicas_behind_one_character(self):
        told = [(0, change(1, "a"))] + [(k, change(2, str(k) + "-", (1, 0))) for k in range(1, 8)]
        self.assertEqual(deeds_of(*told).text("m"), "a7-6-5-4-3-2-1-")

    def test_insertion_at_the_beginning(self):
        deeds = deeds_of((0, change(1, "a")), (1, change(1, "b")), (0, change(2, "cd")))
        self.assertEqual(deeds.text("m"), "cdba")

    def test_a_number_far_above_those_that_it_names(self):
        deeds = deeds_of((0, change(1, "ab")), (1, change(1000000, "Z", (1, 0))), (0, change(3, "y", (1, 0))))
        self.assertEqual(deeds.text("m"), "aZyb")

    def test_a_later_character_may_stand_behind_one_with_a_greater_mark(self):
        deeds = deeds_of((0, change(1, "a")), (1, change(9, "Z", (1, 0))), (2, change(5, "y", (1, 0))))
        self.assertEqual(deeds.row("m"), [((1, 0), "a", True), ((9, 1), "Z", True), ((5, 2), "y", True)])

    def test_removed_characters_stay_in_the_row(self):
        deeds = deeds_of((0, change(1, "abc")), (1, change(4, "X", (2, 0), ((2, 0),))))
        self.assertEqual(deeds.row("m"), [((1, 0), "a", True), ((2, 0), "b", False),
                                          ((4, 1), "X", True), ((3, 0), "c", True)])
        self.assertEqual(deeds.text("m"), "aXc")

    def test_a_change_that_was_taken_back_neither_inserts_nor_removes(self):
        deeds = deeds_of((0, change(1, "abc")), (1, change(4, "X", (1, 0), ((2, 0),))), (1, ("back", 1)))
        self.assertEqual(deeds.text("m"), "abc")
        self.assertIn(((4, 1), "X", False), deeds.row("m"))
        deeds.add(1, ("back", 2))
        self.assertEqual(deeds.text("m"), "aXc")

    def test_a_character_that_two_changes_remove_stays_removed(self):
        deeds = deeds_of((0, change(1, "ab")), (1, change(3, "", None, ((1, 0),))),
                         (2, change(3, "", None, ((1, 0),))), (1, ("back", 1)))
        self.assertEqual(deeds.text("m"), "b")

    def test_what_stands_behind_a_character_that_is_not_seen_is_seen(self):
        deeds = deeds_of((0, change(1, "a")), (1, change(2, "b", (1, 0))), (0, ("back", 1)))
        self.assertEqual(deeds.row("m"), [((1, 0), "a", False), ((2, 1), "b", True)])

    def test_modules_have_texts_of_their_own(self):
        deeds = deeds_of((0, change(1, "ab", module="n")), (0, change(3, "cd", module="M")))
        self.assertEqual((deeds.text("n"), deeds.text("M")), ("ab", "cd"))
        self.assertEqual(deeds.modules(), ["M", "n"])

    def test_a_module_exists_if_a_deed_names_it(self):
        deeds = deeds_of((0, change(1, "ab", module="z")), (0, ("back", 1)), (3, change(1, "", module="b")))
        self.assertEqual(deeds.modules(), ["b", "z"])
        self.assertEqual(deeds.text("z"), "")
        self.assertEqual(deeds.row("z"), [((1, 0), "a", False), ((2, 0), "b", False)])

    def test_a_module_that_no_deed_names_is_empty_and_does_not_come_to_exist(self):
        deeds = Deeds()
        self.assertEqual((deeds.text("m"), deeds.row("m"), deeds.modules()), ("", [], []))

    def test_modules_are_in_the_order_of_names(self):
        names = ["b", "a", "ab", "a b", "A", "a\n", " "]
        deeds = deeds_of(*[(0, change(k, "", module=name)) for k, name in enumerate(names, start=1)])
        self.assertEqual(deeds.modules(), [" ", "A", "a", "a\n", "a b", "ab", "b"])

    def test_the_order_of_the_replicas_makes_no_difference(self):
        told = {0: [change(1, "ab"), change(4, "X", (1, 0), ((2, 0),)), ("back", 2)],
                1: [change(3, "cd", (1, 0)), ("back", 1), ("back", 2)],
                2: [change(3, "ef", (1, 0)), change(9, "", None, ((1, 0),))]}
        expected = [((1, 0), "a", False), ((4, 0), "X", False), ((3, 2), "e", True), ((4, 2), "f", True),
                    ((3, 1), "c", True), ((4, 1), "d", True), ((2, 0), "b", True)]
        for order in itertools.permutations(told):
            deeds = deeds_of(*[(replica, deed) for replica in order for deed in told[replica]])
            self.assertEqual(deeds.row("m"), expected)
            self.assertEqual(deeds.text("m"), "efcdb")

    def test_rows_are_what_the_points_say_word_by_word(self):
        chance = random.Random(5)
        for _ in range(60):
            deeds = Deeds()
            for _ in range(chance.randrange(1, 25)):
                replica = chance.randrange(8)
                deeds.add(replica, a_fitting_deed(chance, deeds, replica))
            for module in ("m", "n"):
                self.assertEqual(deeds.row(module), plain_documents.row(deeds.rows, module))


def a_fitting_deed(chance, deeds, replica):
    if deeds.rows[replica] and chance.randrange(4) == 0:
        return ("back", chance.randrange(1, len(deeds.rows[replica]) + 1))
    module = chance.choice("mn")
    own = [deed[4] + len(deed[5]) for deed in deeds.rows[replica] if deed[0] == "change"]
    marks = [mark for mark, _, _ in deeds.row(module)]
    named = chance.sample(marks, min(len(marks), chance.randrange(4)))
    least = max([1] + own + [mark[0] + 1 for mark in named])
    behind = named.pop() if named else None
    return change(least + chance.randrange(3), "xyz"[:chance.randrange(4)], behind, tuple(named), module)


class LastNumberTest(unittest.TestCase):
    def test_no_deeds(self):
        self.assertEqual(Deeds().last_number(), 0)

    def test_the_greatest_end_of_all_replicas(self):
        deeds = deeds_of((0, change(1, "abc")), (6, change(3, "x", module="n")))
        self.assertEqual(deeds.last_number(), 4)
        deeds.add(6, change(4, "x"))
        self.assertEqual(deeds.last_number(), 5)

    def test_changes_without_text_and_changes_that_were_taken_back_count(self):
        deeds = deeds_of((0, change(1, "a")), (1, change(50, "")))
        self.assertEqual(deeds.last_number(), 50)
        deeds.add(2, change(60, "abc"))
        deeds.add(2, ("back", 1))
        self.assertEqual(deeds.last_number(), 63)


class FitsTest(unittest.TestCase):
    def setUp(self):
        self.deeds = deeds_of((0, change(1, "ab")), (1, change(3, "c", (1, 0))), (1, ("back", 1)),
                              (2, change(5, "n", module="n")))

    def assert_fits(self, expected, replica, deed):
        before = [list(row) for row in self.deeds.rows]
        self.assertIs(self.deeds.fits(replica, deed), expected)
        self.assertEqual(self.deeds.rows, before)
        self.assertEqual(self.deeds.modules(), ["m", "n"])

    def test_modules_have_from_1_to_40_characters(self):
        for size, expected in ((0, False), (1, True), (40, True), (41, False)):
            self.assert_fits(expected, 3, change(1, "x", module="k" * size))

    def test_marks_are_those_of_characters_of_the_module(self):
        self.assert_fits(True, 3, change(9, "x", (2, 0), ((1, 0), (3, 1))))
        for mark in ((5, 2), (3, 0), (0, 0), (1, 1), (1, 8), (1, -1)):
            self.assert_fits(False, 3, change(9, "x", mark))
            self.assert_fits(False, 3, change(9, "x", (1, 0), ((2, 0), mark)))
            self.assert_fits(False, 3, change(9, "x", None, (mark, (2, 0))))

    def test_marks_of_characters_that_were_taken_back_or_removed_fit(self):
        self.deeds.add(0, change(9, "", None, ((2, 0),)))
        self.assert_fits(True, 3, change(9, "x", (3, 1), ((2, 0),)))

    def test_marks_have_lesser_numbers_than_the_change(self):
        for number, expected in ((1, False), (2, False), (3, True), (4, True)):
            self.assert_fits(expected, 3, change(number, "x", (2, 0)))
            self.assert_fits(expected, 3, change(number, "x", None, ((2, 0),)))
            self.assert_fits(expected, 3, change(number, "x", None, ((1, 0), (2, 0))))
        self.assert_fits(False, 3, change(3, "x", (1, 0), ((3, 1),)))

    def test_numbers_are_at_least_1(self):
        for number, expected in ((-1, False), (0, False), (1, True)):
            self.assert_fits(expected, 3, change(number, "x"))
            self.assert_fits(expected, 3, change(number, ""))

    def test_numbers_are_not_less_than_the_ends_of_earlier_changes(self):
        for replica, number, expected in ((0, 2, False), (0, 3, True), (0, 4, True), (2, 5, False), (2, 6, True)):
            self.assert_fits(expected, replica, change(number, ""))
            self.assert_fits(expected, replica, change(number, "xyz"))

    def test_changes_that_were_taken_back_count(self):
        self.assert_fits(False, 1, change(3, ""))
        self.assert_fits(True, 1, change(4, ""))

    def test_every_earlier_change_counts_and_not_only_the_last(self):
        deeds = deeds_of((0, change(20, "abc")), (0, change(5, "")))
        self.assertIs(deeds.fits(0, change(22, "")), False)
        self.assertIs(deeds.fits(0, change(23, "")), True)

    def test_places_of_takings_back(self):
        for replica, place, expected in ((1, 0, False), (1, 1, True), (1, 2, True), (1, 3, False),
                                         (3, 0, False), (3, 1, False), (0, 1, True), (0, -1, False)):
            self.assert_fits(expected, replica, ("back", place))


if __name__ == "__main__":
    unittest.main()
