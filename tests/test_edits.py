import random
import unittest

from quillrun.documents import Deeds
from quillrun.edits import again_deed, back_deed, edit_deed, lacking, received
from quillrun.errors import NothingToTakeBack, OutOfText


def rows_of(deeds):
    return [list(row) for row in deeds.rows]


class EditTest(unittest.TestCase):
    def setUp(self):
        self.deeds = Deeds()
        self.deeds.add(0, ("change", "m", (), None, 1, "abc"))
        self.deeds.add(1, ("change", "m", ((2, 0),), (1, 0), 4, "XY"))

    def assert_edit(self, index, count, text, removed, behind):
        before = rows_of(self.deeds)
        expected = ("change", "m", removed, behind, 7, text)
        self.assertEqual(edit_deed(self.deeds, "m", index, count, text), expected)
        self.assertEqual(rows_of(self.deeds), before)

    def test_an_edit_becomes_a_change(self):
        self.assertEqual(self.deeds.text("m"), "aXYc")
        self.assert_edit(2, 1, "new", ((5, 1),), (4, 1))

    def test_index_0(self):
        self.assert_edit(0, 0, "q", (), None)
        self.assert_edit(0, 2, "q", ((1, 0), (4, 1)), None)

    def test_the_end_of_the_text(self):
        self.assert_edit(4, 0, "q", (), (3, 0))

    def test_removal_up_to_the_end(self):
        self.assert_edit(1, 3, "", ((4, 1), (5, 1), (3, 0)), (1, 0))
        self.assert_edit(0, 4, "", ((1, 0), (4, 1), (5, 1), (3, 0)), None)

    def test_nothing_removed_and_nothing_inserted(self):
        self.assert_edit(3, 0, "", (), (5, 1))

    def test_removed_characters_are_passed_over(self):
        self.assert_edit(3, 1, "q", ((3, 0),), (5, 1))

    def test_one_character_beyond(self):
        for index, count in ((5, 0), (4, 1), (0, 5), (9, 9)):
            with self.assertRaises(OutOfText):
                edit_deed(self.deeds, "m", index, count, "q")
        self.assertEqual(self.deeds.counts()[:2], [1, 1])

    def test_a_module_that_does_not_exist(self):
        self.assertEqual(edit_deed(self.deeds, "new", 0, 0, "q"), ("change", "new", (), None, 7, "q"))
        for index, count in ((0, 1), (1, 0)):
            with self.assertRaises(OutOfText):
                edit_deed(self.deeds, "new", index, count, "")
        self.assertEqual(self.deeds.modules(), ["m"])

    def test_the_number_of_the_first_change_is_1(self):
        self.assertEqual(edit_deed(Deeds(), "m", 0, 0, "q"), ("change", "m", (), None, 1, "q"))

    def test_the_change_of_an_edit_edits_the_text(self):
        chance = random.Random(9)
        for _ in range(200):
            before = self.deeds.text("m")
            index = chance.randrange(len(before) + 1)
            count = chance.randrange(len(before) - index + 1)
            text = "pqrst"[:chance.randrange(6)]
            replica = chance.randrange(8)
            deed = edit_deed(self.deeds, "m", index, count, text)
            self.assertTrue(self.deeds.fits(replica, deed))
            self.deeds.add(replica, deed)
            self.assertEqual(self.deeds.text("m"), before[:index] + text + before[index + count:])


class TakingBackTest(unittest.TestCase):
    def setUp(self):
        self.deeds = Deeds()

    def edit(self, text="x"):
        self.deeds.add(3, edit_deed(self.deeds, "m", 0, 0, text))

    def assert_nothing(self, make):
        before = rows_of(self.deeds)
        with self.assertRaises(NothingToTakeBack):
            make(self.deeds, 3)
        self.assertEqual(rows_of(self.deeds), before)

    def assert_deed(self, make, place):
        deed = make(self.deeds, 3)
        self.assertEqual(deed, ("back", place))
        self.assertTrue(self.deeds.fits(3, deed))
        self.deeds.add(3, deed)

    def test_nothing_to_take_back(self):
        self.assert_nothing(back_deed)
        self.assert_nothing(again_deed)
        self.deeds.add(2, ("change", "m", (), None, 1, "a"))
        self.deeds.add(2, ("back", 1))
        self.assert_nothing(back_deed)
        self.assert_nothing(again_deed)

    def test_the_last_change_in_force_is_taken_back(self):
        self.edit()
        self.edit()
        self.assert_nothing(again_deed)
        self.assert_deed(back_deed, 2)
        self.assert_deed(back_deed, 1)
        self.assert_nothing(back_deed)

    def test_takings_back_are_taken_back_the_last_one_first(self):
        self.edit("a")
        self.edit("b")
        self.assert_deed(back_deed, 2)
        self.assert_deed(back_deed, 1)
        self.assertEqual(self.deeds.text("m"), "")
        self.assert_deed(again_deed, 4)
        self.assertEqual(self.deeds.text("m"), "a")
        self.assert_deed(again_deed, 3)
        self.assertEqual(self.deeds.text("m"), "ba")
        self.assert_nothing(again_deed)

    def test_back_after_again(self):
        self.edit()
        self.assert_deed(back_deed, 1)
        self.assert_deed(again_deed, 2)
        self.assert_nothing(again_deed)
        self.assert_deed(back_deed, 1)
        self.assert_nothing(back_deed)
        self.assert_deed(again_deed, 4)
        self.assertEqual(self.deeds.text("m"), "x")

    def test_a_change_behind_a_taking_back(self):
        self.edit()
        self.assert_deed(back_deed, 1)
        self.edit()
        self.assert_nothing(again_deed)
        self.assert_deed(back_deed, 3)
        self.assert_deed(again_deed, 4)
        self.assert_nothing(again_deed)

    def test_a_change_that_was_taken_back_still_stands_behind(self):
        self.edit()
        self.assert_deed(back_deed, 1)
        self.edit()
        self.assert_deed(back_deed, 3)
        self.assert_deed(again_deed, 4)
        self.deeds.add(3, ("back", 3))
        self.deeds.add(3, ("back", 6))
        self.assert_nothing(again_deed)

    def test_a_taking_back_of_a_taking_back_is_no_taking_back_of_a_change(self):
        self.edit()
        for deed in (("back", 1), ("back", 2), ("back", 3)):
            self.deeds.add(3, deed)
        self.assertEqual(self.deeds.text("m"), "")
        self.assert_deed(again_deed, 2)
        self.assertEqual(self.deeds.text("m"), "x")

    def test_a_change_that_is_taken_back_twice(self):
        self.edit()
        self.deeds.add(3, ("back", 1))
        self.deeds.add(3, ("back", 1))
        self.assert_nothing(back_deed)
        self.assert_deed(again_deed, 3)
        self.assertEqual(self.deeds.text("m"), "")
        self.assert_deed(again_deed, 2)
        self.assertEqual(self.deeds.text("m"), "x")


    def test_takings_back_of_deeds_that_are_not_the_last(self):
        self.edit()
        self.edit()
        self.deeds.add(3, ("back", 1))
        self.assertEqual(back_deed(self.deeds, 3), ("back", 2))
        self.assertEqual(again_deed(self.deeds, 3), ("back", 3))
        self.deeds.add(3, ("back", 2))
        self.deeds.add(3, ("back", 3))
        self.assertEqual(back_deed(self.deeds, 3), ("back", 1))
        self.assertEqual(again_deed(self.deeds, 3), ("back", 4))


class PacketTest(unittest.TestCase):
    def setUp(self):
        self.deeds = Deeds()
        self.deeds.add(0, ("change", "m", (), None, 1, "ab"))
        self.deeds.add(0, ("back", 1))
        self.deeds.add(0, ("change", "m", (), (2, 0), 3, "c"))
        self.deeds.add(5, ("change", "m", ((3, 0),), (1, 0), 4, ""))
        self.packet = lacking(self.deeds, [0] * 8)

    def assert_received(self, deeds, packet, taken):
        before, offered = rows_of(deeds), list(packet)
        known, found = received(deeds, packet)
        self.assertEqual(found, taken)
        self.assertEqual(rows_of(deeds), before)
        self.assertEqual(packet, offered)
        for replica, row in enumerate(known.rows):
            added = [deed for other, _, deed in taken if other == replica]
            self.assertEqual(row, before[replica] + added)
        known.add(7, ("change", "m", (), None, 90, "z"))
        self.assertEqual(rows_of(deeds), before)
        return known

    def test_lacking_lists_replica_by_replica_in_the_order_of_places(self):
        rows = self.deeds.rows
        self.assertEqual(self.packet, [(0, 1, rows[0][0]), (0, 2, rows[0][1]), (0, 3, rows[0][2]), (5, 1, rows[5][0])])

    def test_lacking_lists_what_lies_after_the_counts(self):
        self.assertEqual(lacking(self.deeds, [2, 9, 0, 0, 0, 0, 0, 0]), self.packet[2:])
        self.assertEqual(lacking(self.deeds, [3, 0, 0, 0, 0, 1, 0, 0]), [])
        self.assertEqual(lacking(self.deeds, [4, 0, 0, 0, 0, 7, 0, 0]), [])
        self.assertEqual(lacking(self.deeds, [3, 0, 0, 0, 0, 0, 0, 0]), self.packet[3:])

    def test_lacking_changes_nothing_and_returns_a_new_list(self):
        counts = [1, 0, 0, 0, 0, 0, 0, 0]
        lacking(self.deeds, counts).clear()
        self.assertEqual(counts, [1, 0, 0, 0, 0, 0, 0, 0])
        self.assertEqual(lacking(self.deeds, [0] * 8), self.packet)

    def test_a_whole_packet(self):
        known = self.assert_received(Deeds(), self.packet, self.packet)
        self.assertEqual(known.counts(), [3, 0, 0, 0, 0, 1, 0, 1])

    def test_the_empty_packet(self):
        self.assert_received(Deeds(), [], [])
        self.assert_received(self.deeds, [], [])

    def test_the_first_triple_that_can_be_taken_is_taken(self):
        one, two, three, four = self.packet
        self.assert_received(Deeds(), [four, three, two, one], [one, two, three, four])
        self.assert_received(Deeds(), [three, one, four, two], [one, two, three, four])
        self.assert_received(Deeds(), [one, three, two, four], [one, two, three, four])

    def test_earlier_triples_that_become_fitting_come_before_later_ones(self):
        one, two, three, four = self.packet
        free = (6, 1, ("change", "k", (), None, 1, "q"))
        behind_one = (6, 1, ("change", "m", (), (1, 0), 4, "q"))
        self.assert_received(Deeds(), [two, one, free], [one, two, free])
        self.assert_received(Deeds(), [behind_one, free], [free])
        self.assert_received(Deeds(), [behind_one, one, free], [one, behind_one])
        self.assert_received(Deeds(), [behind_one, free, one], [free, one])

    def test_triples_that_are_missing(self):
        one, two, three, four = self.packet
        self.assert_received(Deeds(), [one, three, four], [one])
        self.assert_received(Deeds(), [two, three, four], [])
        self.assert_received(Deeds(), [four], [])

    def test_what_was_ignored_may_come_again(self):
        one, two, three, four = self.packet
        known, taken = received(Deeds(), [four, three, one])
        self.assertEqual(taken, [one])
        self.assert_received(known, [four, three, two], [two, three, four])

    def test_triples_that_come_twice(self):
        one, two, three, four = self.packet
        self.assert_received(Deeds(), [one, one, two, one, two], [one, two])
        self.assert_received(self.deeds, self.packet, [])

    def test_of_two_triples_of_one_place_the_first_that_fits_is_taken(self):
        good = (0, 1, ("change", "m", (), None, 1, "a"))
        other = (0, 1, ("change", "m", (), None, 2, "b"))
        unfit = (0, 1, ("change", "m", (), (9, 9), 10, "c"))
        self.assert_received(Deeds(), [good, other], [good])
        self.assert_received(Deeds(), [other, good], [other])
        self.assert_received(Deeds(), [unfit, other, good], [other])

    def test_places_further_on(self):
        deed = ("change", "m", (), None, 50, "x")
        self.assert_received(self.deeds, [(0, 5, deed), (1, 2, deed), (1, 0, deed), (1, 10 ** 30, deed)], [])
        self.assert_received(self.deeds, [(0, 5, ("back", 1)), (0, 4, deed)], [(0, 4, deed), (0, 5, ("back", 1))])

    def test_other_replicas_are_ignored(self):
        deed = ("change", "m", (), None, 1, "x")
        strange = [(8, 1, deed), (-1, 1, deed), (10 ** 20, 1, deed)]
        self.assert_received(Deeds(), strange, [])
        self.assert_received(Deeds(), strange + [(7, 1, deed)] + strange, [(7, 1, deed)])

    def test_deeds_that_do_not_fit(self):
        for deed in (("back", 0), ("back", 1), ("change", "", (), None, 1, "x"), ("change", "m" * 41, (), None, 1, "x"),
                     ("change", "m", (), None, 0, "x"), ("change", "m", ((1, 1),), None, 2, "x"),
                     ("change", "m", (), (1, 0), 1, "x"), ("change", "n", (), (1, 0), 9, "x")):
            self.assert_received(self.deeds, [(1, 1, deed)], [])
        self.assert_received(self.deeds, [(0, 4, ("back", 4)), (0, 4, ("back", 3))], [(0, 4, ("back", 3))])

    def test_a_taken_deed_makes_others_fit(self):
        first = (1, 1, ("change", "m", (), None, 10, "x"))
        second = (1, 2, ("change", "m", ((10, 1),), (10, 1), 11, "y"))
        low = (1, 2, ("change", "m", (), None, 10, "z"))
        self.assert_received(self.deeds, [low, second, first], [first, second])

    def test_replicas_that_have_the_same_deeds_have_the_same_texts(self):
        chance = random.Random(3)
        for _ in range(15):
            replicas = [Deeds() for _ in range(4)]
            for _ in range(60):
                number = chance.randrange(4)
                replicas[number] = a_random_step(chance, replicas, number)
            whole = merged(replicas)
            for deeds in replicas:
                packet = lacking(whole, deeds.counts())
                chance.shuffle(packet)
                known, taken = received(deeds, packet + packet)
                self.assertEqual(len(taken), len(packet))
                self.assertEqual(known.rows, whole.rows)
                self.assertEqual([known.row(m) for m in "ab"], [whole.row(m) for m in "ab"])


def a_random_step(chance, replicas, number):
    deeds = replicas[number].copy()
    kind = chance.randrange(5)
    if kind == 0:
        other = replicas[chance.randrange(4)]
        packet = [triple for triple in lacking(other, deeds.counts()) if chance.randrange(5)]
        return received(deeds, packet)[0]
    module = chance.choice("ab")
    size = len(deeds.text(module))
    index = chance.randrange(size + 1)
    try:
        if kind == 1:
            deeds.add(number, back_deed(deeds, number))
        elif kind == 2:
            deeds.add(number, again_deed(deeds, number))
        else:
            count = chance.randrange(min(3, size - index) + 1)
            deeds.add(number, edit_deed(deeds, module, index, count, "xyz"[:chance.randrange(4)]))
    except NothingToTakeBack:
        pass
    return deeds


def merged(replicas):
    whole = Deeds()
    size = -1
    while size != sum(whole.counts()):
        size = sum(whole.counts())
        for deeds in replicas:
            whole = received(whole, lacking(deeds, whole.counts()))[0]
    return whole


if __name__ == "__main__":
    unittest.main()
