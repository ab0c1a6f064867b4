import copy
import unittest

from roomsay.statements import plain, truths
from tests.samples import DEEPER, LEAVES, SHALLOW, WORLDS, corridor, kinds_in, nested, true_in

T, F = True, False

# Room 0 has doors to 1 and 2, room 1 to itself, room 2 to all, room 3 to none.
HOUSE = [
    ([1, 2], [1, 2]),
    ([1], [1]),
    ([], [0, 1, 2, 3]),
    ([2], []),
]


class Truths(unittest.TestCase):
    def check(self, world, statement, wanted):
        found = truths(world, statement)
        self.assertIsInstance(found, list)
        self.assertEqual(found, wanted)
        for truth in found:
            self.assertIsInstance(truth, bool)

    def test_lamp_and_dark(self):
        self.check(HOUSE, ("lamp", 1), [T, T, F, F])
        self.check(HOUSE, ("lamp", 2), [T, F, F, T])
        self.check(HOUSE, ("dark", 1), [F, F, T, T])
        self.check(HOUSE, ("dark", 2), [F, T, T, F])

    def test_a_lamp_that_no_room_names_is_dark(self):
        self.check(HOUSE, ("lamp", 3), [F, F, F, F])
        self.check(HOUSE, ("dark", 3), [T, T, T, T])

    def test_not(self):
        self.check(HOUSE, ("not", ("lamp", 1)), [F, F, T, T])
        self.check(HOUSE, ("not", ("dark", 2)), [T, F, F, T])
        self.check(HOUSE, ("not", ("not", ("lamp", 1))), [T, T, F, F])

    def test_and_and_or(self):
        self.check(HOUSE, ("and", ("lamp", 1), ("lamp", 2)), [T, F, F, F])
        self.check(HOUSE, ("or", ("lamp", 1), ("lamp", 2)), [T, T, F, T])
        self.check(HOUSE, ("and", ("lamp", 1), ("dark", 2)), [F, T, F, F])
        self.check(HOUSE, ("or", ("dark", 1), ("lamp", 2)), [T, F, T, T])

    def test_every_and_some(self):
        self.check(HOUSE, ("every", ("lamp", 1)), [F, T, F, T])
        self.check(HOUSE, ("some", ("lamp", 1)), [T, T, T, F])
        self.check(HOUSE, ("every", ("dark", 2)), [T, T, F, T])
        self.check(HOUSE, ("some", ("lamp", 2)), [F, F, T, F])

    def test_a_room_without_doors(self):
        world = [([1], [])]
        for inner in (("lamp", 1), ("dark", 1), ("some", ("lamp", 1)), ("every", ("lamp", 1))):
            self.check(world, ("every", inner), [T])
            self.check(world, ("some", inner), [F])
            self.check(world, ("not", ("every", inner)), [F])
            self.check(world, ("not", ("some", inner)), [T])

    def test_doors_lead_one_way(self):
        world = [([], [1]), ([1], [])]
        self.check(world, ("some", ("lamp", 1)), [T, F])
        self.check(world, ("some", ("dark", 1)), [F, F])

    def test_a_door_to_the_room_itself(self):
        world = [([4], [0])]
        for kind in ("every", "some"):
            self.check(world, (kind, ("lamp", 4)), [T])
            self.check(world, (kind, ("dark", 4)), [F])
            self.check(world, (kind, (kind, ("lamp", 4))), [T])

    def test_a_room_without_a_door_to_itself_is_not_behind_its_doors(self):
        world = [([1], [1]), ([], [1])]
        self.check(world, ("some", ("lamp", 1)), [F, F])
        self.check(world, ("every", ("dark", 1)), [T, T])

    def test_a_world_of_one_room(self):
        self.check([([], [])], ("lamp", 1), [F])
        self.check([([], [])], ("dark", 1), [T])

    def test_worlds_of_forty_rooms_and_more(self):
        for length in (40, 57):
            world = corridor(length, [1])
            self.check(world, ("lamp", 1), [F] * (length - 1) + [T])
            statement = ("lamp", 1)
            for steps in range(1, length):
                statement = ("some", statement)
                wanted = [room == length - 1 - steps for room in range(length)]
                self.check(world, statement, wanted)

    def test_every_room_has_doors_to_all_forty(self):
        world = [([room + 1], list(range(40))) for room in range(40)]
        self.check(world, ("some", ("lamp", 40)), [T] * 40)
        self.check(world, ("every", ("lamp", 40)), [F] * 40)
        # Room by room anew for each door, this would never come to an end.
        self.check(world, nested(["some", "every"], ("lamp", 40), 100), [T] * 40)
        self.check(world, nested(["every", "some"], ("lamp", 40), 100), [F] * 40)

    def test_lamps_of_great_numbers(self):
        great = 10 ** 40
        world = [([great, 1], [1]), ([great + 1], [0])]
        self.check(world, ("lamp", great), [T, F])
        self.check(world, ("dark", great), [F, T])
        self.check(world, ("some", ("lamp", great + 1)), [T, F])
        self.check(world, ("lamp", great + 2), [F, F])

    def test_the_order_of_lamps_and_doors_is_free(self):
        self.check([([3, 1, 2], [1, 0]), ([], [0, 1])], ("some", ("lamp", 1)), [T, T])
        self.check([([2, 3, 1], [0, 1]), ([], [1, 0])], ("every", ("dark", 1)), [F, F])

    def test_a_hundred_statements_one_within_the_other_and_more(self):
        world = [([1], [0]), ([], [1])]
        for depth in (99, 100, 101, 130, 300, 5000):
            turns = (depth - 1) % 2 == 1
            self.check(world, nested(["not"], ("lamp", 1), depth), [not turns, turns])
            self.check(world, nested(["every", "some"], ("lamp", 1), depth), [T, F])
            self.check(world, nested(["or"], ("lamp", 1), depth), [T, F])
            self.check(world, nested(["and"], ("lamp", 1), depth), [F, F])
            self.check(world, nested(["or", "every", "some"], ("lamp", 1), depth), [T, F])

    def test_both_sides_of_a_join_may_be_deep(self):
        world = [([1], [0]), ([], [1])]
        deep = nested(["every", "some"], ("lamp", 1), 99)
        dark = nested(["every", "some"], ("dark", 1), 99)
        self.check(world, ("and", deep, dark), [F, F])
        self.check(world, ("or", deep, dark), [T, T])
        self.check(world, ("and", deep, ("not", dark)), [T, F])

    def test_all_sorts_within_all_sorts(self):
        for world in WORLDS:
            for statement in DEEPER:
                wanted = [true_in(world, room, statement) for room in range(len(world))]
                self.check(world, statement, wanted)

    def test_the_world_stays_as_it_was(self):
        for world in WORLDS + [HOUSE]:
            before = copy.deepcopy(world)
            for statement in SHALLOW:
                truths(world, statement)
            self.assertEqual(world, before)

    def test_the_answer_is_a_list_of_its_own(self):
        first = truths(HOUSE, ("lamp", 1))
        first.append("scribble")
        first[0] = "scribble"
        self.check(HOUSE, ("lamp", 1), [T, T, F, F])


class Plain(unittest.TestCase):
    def check(self, statement, wanted):
        self.assertEqual(plain(statement), wanted)

    def test_a_not_of_each_sort(self):
        one, other = ("lamp", 1), ("dark", 2)
        self.check(("not", ("lamp", 1)), ("dark", 1))
        self.check(("not", ("dark", 2)), ("lamp", 2))
        self.check(("not", ("not", one)), one)
        self.check(("not", ("not", other)), other)
        self.check(("not", ("and", one, other)), ("or", ("dark", 1), ("lamp", 2)))
        self.check(("not", ("or", one, other)), ("and", ("dark", 1), ("lamp", 2)))
        self.check(("not", ("every", one)), ("some", ("dark", 1)))
        self.check(("not", ("some", one)), ("every", ("dark", 1)))

    def test_nots_of_nots(self):
        straight = ("some", ("and", ("lamp", 7), ("every", ("dark", 8))))
        turned = ("every", ("or", ("dark", 7), ("some", ("lamp", 8))))
        statement = straight
        for count in range(7):
            self.check(statement, turned if count % 2 == 1 else straight)
            statement = ("not", statement)

    def test_nots_deep_within(self):
        self.check(("and", ("not", ("lamp", 1)), ("lamp", 1)), ("and", ("dark", 1), ("lamp", 1)))
        self.check(("or", ("lamp", 1), ("not", ("lamp", 1))), ("or", ("lamp", 1), ("dark", 1)))
        self.check(("every", ("some", ("not", ("dark", 5)))), ("every", ("some", ("lamp", 5))))
        self.check(
            ("not", ("and", ("not", ("every", ("lamp", 1))), ("some", ("not", ("or", ("lamp", 2), ("dark", 3)))))),
            ("or", ("every", ("lamp", 1)), ("every", ("or", ("lamp", 2), ("dark", 3)))),
        )
        self.check(
            ("or", ("not", ("or", ("lamp", 1), ("lamp", 2))), ("and", ("lamp", 3), ("not", ("not", ("dark", 4))))),
            ("or", ("and", ("dark", 1), ("dark", 2)), ("and", ("lamp", 3), ("dark", 4))),
        )

    def test_what_is_plain_stays(self):
        for statement in SHALLOW + DEEPER:
            if "not" not in kinds_in(statement):
                self.check(statement, statement)

    def test_nothing_is_made_simpler(self):
        twice = ("or", ("lamp", 1), ("lamp", 1))
        self.check(twice, twice)
        self.check(("not", twice), ("and", ("dark", 1), ("dark", 1)))
        self.check(("not", ("and", ("lamp", 1), ("dark", 1))), ("or", ("dark", 1), ("lamp", 1)))

    def test_lamps_of_great_numbers(self):
        self.check(("not", ("lamp", 10 ** 40)), ("dark", 10 ** 40))

    def test_no_not_is_left_and_it_is_true_in_the_same_rooms(self):
        for statement in DEEPER + [("not", inner) for inner in DEEPER]:
            found = plain(statement)
            self.assertNotIn("not", kinds_in(found))
            for world in WORLDS:
                self.assertEqual(truths(world, found), truths(world, statement))

    def test_the_plain_form_is_a_statement(self):
        for leaf in LEAVES:
            for statement in (leaf, ("not", leaf), ("not", ("every", leaf)), ("not", ("or", leaf, leaf))):
                self.assertIsInstance(plain(statement), tuple)

    def test_a_hundred_statements_one_within_the_other_and_more(self):
        for depth in (99, 100, 101, 130, 300, 5000):
            odd = (depth - 1) % 2 == 1
            self.check(nested(["not"], ("lamp", 1), depth), ("dark", 1) if odd else ("lamp", 1))
        for depth in (99, 100, 101, 130, 300):
            self.check(nested(["every", "some"], ("lamp", 1), depth), nested(["every", "some"], ("lamp", 1), depth))
            self.check(
                ("not", nested(["every", "some"], ("lamp", 1), depth)),
                nested(["some", "every"], ("dark", 1), depth),
            )
        mixed = nested(["not", "every", "and", "not", "some", "or"], ("lamp", 1), 5000)
        self.assertNotIn("not", kinds_in(plain(mixed)))


if __name__ == "__main__":
    unittest.main()
