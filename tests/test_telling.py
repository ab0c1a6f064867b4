import copy
import unittest

from roomsay.statements import truths
from roomsay.telling import told_apart
from tests.samples import (
    CLOSE_WORLD, DEEPER, WORLDS, alike_rooms, corridor, drawn_worlds, is_plain, pair_holds, parts_in, two_room_worlds,
)

MOST = 100000


class ToldApart(unittest.TestCase):
    def check_apart(self, world, one, other, answer):
        self.assertEqual((len(answer), answer[0]), (2, "apart"), (world, one, other))
        statement = answer[1]
        self.assertTrue(is_plain(statement), statement)
        self.assertLessEqual(len(parts_in(statement)), MOST)
        found = truths(world, statement)
        self.assertEqual((found[one], found[other]), (True, False), (world, one, other, statement))

    def check_alike(self, world, one, other, answer):
        self.assertEqual((len(answer), answer[0]), (2, "alike"), (world, one, other))
        pairs = answer[1]
        self.assertIsInstance(pairs, list)
        for pair in pairs:
            self.assertIsInstance(pair, tuple)
        self.assertEqual(len(set(pairs)), len(pairs))
        self.assertIn((one, other), pairs)
        for pair in pairs:
            self.assertTrue(pair_holds(world, pair, set(pairs)), (world, pair))

    def check(self, world, one, other, alike):
        before = copy.deepcopy(world)
        answer = told_apart(world, one, other)
        self.assertEqual(world, before)
        self.assertIsInstance(answer, tuple)
        if alike:
            self.check_alike(world, one, other, answer)
        else:
            self.check_apart(world, one, other, answer)

    def check_both_ways(self, world, one, other, alike):
        self.check(world, one, other, alike)
        self.check(world, other, one, alike)

    def check_all(self, world):
        alike = alike_rooms(world)
        for one in range(len(world)):
            for other in range(len(world)):
                self.check(world, one, other, (one, other) in alike)

    def test_the_same_room_twice(self):
        for world in WORLDS:
            for room in range(len(world)):
                self.check(world, room, room, True)

    def test_different_lamps(self):
        self.check_both_ways([([1], []), ([], [])], 0, 1, False)
        self.check_both_ways([([1], []), ([2], [])], 0, 1, False)
        self.check_both_ways([([1, 2], []), ([2], [])], 0, 1, False)
        self.check_both_ways([([3], [0, 1]), ([4], [0, 1])], 0, 1, False)
        self.check_both_ways([([10 ** 40], []), ([10 ** 40 + 1], [])], 0, 1, False)

    def test_the_same_lamps_in_another_order(self):
        self.check_both_ways([([1, 2, 7], []), ([7, 1, 2], [])], 0, 1, True)
        self.check_both_ways([([1, 2], [0]), ([2, 1], [1])], 0, 1, True)

    def test_the_same_lamps_and_different_doors(self):
        self.check_both_ways([([], [2]), ([], [3]), ([1], []), ([2], [])], 0, 1, False)
        self.check_both_ways([([], [2, 3]), ([], [3]), ([1], []), ([2], [])], 0, 1, False)
        self.check_both_ways([([], [2, 3]), ([], [3, 2]), ([1], []), ([2], [])], 0, 1, True)
        self.check_both_ways([([5], [2]), ([5], [3]), ([1], []), ([1], [])], 0, 1, True)
        self.check_both_ways([([5], [2, 3]), ([5], [3]), ([1], []), ([1], [])], 0, 1, True)

    def test_a_room_without_doors_and_one_with_a_door(self):
        for lit in ([], [1], [1, 2, 3]):
            self.check_both_ways([(lit, []), (lit, [0])], 0, 1, False)
            self.check_both_ways([(lit, []), (lit, [1])], 0, 1, False)
            self.check_both_ways([(lit, []), (lit, [2]), ([9], [])], 0, 1, False)
            self.check_both_ways([(lit, []), (lit, [])], 0, 1, True)

    def test_alike_through_loops(self):
        self.check_both_ways([([], [0]), ([], [1])], 0, 1, True)
        self.check_both_ways([([], [1]), ([], [0])], 0, 1, True)
        self.check_both_ways([([], [0]), ([], [2]), ([], [3]), ([], [1])], 0, 1, True)
        self.check_both_ways([([1], [1]), ([2], [0]), ([1], [3]), ([2], [4]), ([1], [5]), ([2], [2])], 0, 4, True)
        self.check_both_ways([([1], [1]), ([2], [0]), ([1], [3]), ([2], [4]), ([1], [5]), ([2], [2])], 0, 3, False)

    def test_loops_of_which_one_has_a_way_out(self):
        self.check_both_ways([([], [0]), ([], [1, 2]), ([], [])], 0, 1, False)
        self.check_both_ways([([], [1]), ([], [2]), ([], [0]), ([], [4]), ([], [3, 5]), ([], [])], 0, 3, False)

    def test_what_only_an_every_and_a_some_together_tell_apart(self):
        # From both one goes to rooms with lamp 1 and with lamp 2; only from room 0 also to one with both.
        world = [([], [2, 3, 4]), ([], [2, 3]), ([1], []), ([2], []), ([1, 2], [])]
        self.check_both_ways(world, 0, 1, False)
        # Behind doors from which lamp 1 or lamp 2 is reached, or both.
        world = [([], [2, 3]), ([], [4]), ([], [5]), ([], [6]), ([], [5, 6]), ([1], []), ([2], [])]
        self.check_both_ways(world, 0, 1, False)
        self.check_all(world)

    def test_each_of_many_rooms_must_be_spoken_against(self):
        for count in (3, 4, 5, 9):
            lamps = list(range(1, count + 1))
            rooms = [([lamp for lamp in lamps if lamp != dark], []) for dark in lamps]
            doors = list(range(2, count + 2))
            world = [([], doors + [count + 2]), ([], doors)] + rooms + [(lamps, [])]
            self.check_both_ways(world, 0, 1, False)

    def test_all_worlds_of_two_rooms(self):
        for world in two_room_worlds():
            self.check_all(world)

    def test_all_rooms_of_many_worlds(self):
        for world in WORLDS + drawn_worlds(1, 150, 6, 1) + drawn_worlds(2, 100, 8, 0):
            self.check_all(world)

    def test_greater_worlds(self):
        for lamps in (0, 1, 2, 5):
            for world in drawn_worlds(lamps, 12, 44, lamps):
                alike = alike_rooms(world)
                last = len(world) - 1
                for one, other in ((0, 0), (0, last), (last // 2, 0), (last, last // 3)):
                    self.check(world, one, other, (one, other) in alike)

    def test_forty_rooms_in_a_row_and_more(self):
        for length in (40, 50):
            for lit in ([], [1]):
                world = corridor(length, lit)
                for one, other in ((0, 1), (0, length - 1), (length - 2, length - 1), (5, 20), (length // 2, 2)):
                    self.check_both_ways(world, one, other, False)
                self.check(world, 3, 3, True)

    def test_forty_rooms_in_a_ring(self):
        ring = [([], [(room + 1) % 40]) for room in range(40)]
        self.check_both_ways(ring, 0, 17, True)
        ring[20] = ([1], [21])
        self.check_both_ways(ring, 0, 17, False)
        self.check_both_ways(ring, 21, 22, False)
        ring[0] = ([1], [1])
        self.check_both_ways(ring, 1, 21, True)
        self.check_both_ways(ring, 1, 22, False)

    def test_forty_rooms_with_doors_to_all_before_them(self):
        world = [([], list(range(room))) for room in range(40)]
        self.check_both_ways(world, 39, 38, False)
        self.check_both_ways(world, 0, 39, False)
        world = [([], list(range(40))) for room in range(40)]
        self.check_both_ways(world, 3, 38, True)

    def test_two_corridors_of_twenty_rooms_that_split_again_and_again(self):
        # A statement that speaks of each door anew would be twice as large with each pair of rooms.
        world = [([], [room + 2, room + 3 - 2 * (room % 2)]) for room in range(38)] + [([1], []), ([2], [])]
        self.check_both_ways(world, 36, 38, False)
        self.check_both_ways(world, 0, 1, True)
        for room in range(0, 38, 2):
            world[room + 1] = ([], [room + 3])
        for room in range(0, 38, 2):
            self.check_both_ways(world, room, room + 1, False)

    def test_rooms_that_are_hard_to_tell_apart(self):
        self.check_both_ways(CLOSE_WORLD, 10, 12, False)
        for one, other in ((2, 10), (13, 20), (9, 21), (38, 39), (30, 32), (4, 26)):
            self.check_both_ways(CLOSE_WORLD, one, other, False)

    def test_rooms_that_are_alike_are_not_told_apart_by_any_statement(self):
        for world in WORLDS + drawn_worlds(6, 10, 5, 1):
            alike = alike_rooms(world)
            for statement in DEEPER:
                found = truths(world, statement)
                for one, other in alike:
                    self.assertEqual(found[one], found[other])

    def test_the_answer_is_a_list_of_its_own(self):
        world = [([], [1]), ([], [0])]
        told_apart(world, 0, 1)[1].clear()
        self.check(world, 0, 1, True)


if __name__ == "__main__":
    unittest.main()
