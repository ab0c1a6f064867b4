import copy
import unittest

from roomsay.errors import NoMove, SayError
from roomsay.game import best_move, moves, winner
from roomsay.statements import truths
from tests.samples import DEEPER, LEAVES, PLAIN_SHALLOW, WORLDS, drawn_rows, drawn_worlds, kinds_in, nested, true_in

A, NOT_A = ("lamp", 1), ("dark", 1)
B, NOT_B = ("lamp", 2), ("dark", 2)

# Room 0 has doors to 2, 1 and 3 in this order, room 1 to itself, room 2 to 0 and 3, room 3 none.
HOUSE = [
    ([1], [2, 1, 3]),
    ([2], [1]),
    ([1, 2], [0, 3]),
    ([], []),
]
PLAIN = [statement for statement in DEEPER if "not" not in kinds_in(statement)]


def places_of(worlds, statements):
    return [
        (world, room, statement) for world in worlds for room in range(len(world)) for statement in statements
    ]


def mover_of(statement):
    return "speaker" if statement[0] in ("or", "some") else "doubter"


def other_of(player):
    return "doubter" if player == "speaker" else "speaker"


class Moves(unittest.TestCase):
    def check(self, world, room, statement, wanted):
        before = copy.deepcopy(world)
        found = moves(world, room, statement)
        self.assertIsInstance(found, list)
        self.assertEqual(found, wanted)
        for place in found:
            self.assertIsInstance(place, tuple)
        self.assertEqual(world, before)

    def test_no_move_at_a_lamp_or_a_dark(self):
        for room in range(4):
            for leaf in LEAVES:
                self.check(HOUSE, room, leaf, [])

    def test_or_and_and_stay_in_the_room(self):
        for room in range(4):
            for kind in ("or", "and"):
                self.check(HOUSE, room, (kind, A, NOT_B), [(room, A), (room, NOT_B)])
                self.check(HOUSE, room, (kind, NOT_B, A), [(room, NOT_B), (room, A)])
                self.check(HOUSE, room, (kind, B, B), [(room, B), (room, B)])

    def test_some_and_every_lead_through_the_doors_in_their_order(self):
        for kind in ("some", "every"):
            self.check(HOUSE, 0, (kind, A), [(2, A), (1, A), (3, A)])
            self.check(HOUSE, 1, (kind, NOT_B), [(1, NOT_B)])
            self.check(HOUSE, 2, (kind, A), [(0, A), (3, A)])
            self.check([([], [1, 0]), ([], [0, 1])], 0, (kind, B), [(1, B), (0, B)])

    def test_a_room_without_doors(self):
        for kind in ("some", "every"):
            self.check(HOUSE, 3, (kind, A), [])
            self.check(HOUSE, 3, (kind, (kind, A)), [])
        self.check(HOUSE, 3, ("or", ("some", A), ("every", A)), [(3, ("some", A)), (3, ("every", A))])

    def test_only_the_outermost_is_taken_apart(self):
        deep = nested(["some", "and", "every", "or"], A, 130)
        self.check(HOUSE, 2, ("some", deep), [(0, deep), (3, deep)])
        self.check(HOUSE, 2, ("and", deep, B), [(2, deep), (2, B)])

    def test_the_answer_is_a_list_of_its_own(self):
        moves(HOUSE, 0, ("some", A)).append("scribble")
        moves(HOUSE, 3, ("some", A)).append("scribble")
        self.check(HOUSE, 0, ("some", A), [(2, A), (1, A), (3, A)])
        self.check(HOUSE, 3, ("some", A), [])


class Winner(unittest.TestCase):
    def check(self, world, room, statement, wanted):
        before = copy.deepcopy(world)
        self.assertEqual(winner(world, room, statement), wanted)
        self.assertEqual(world, before)

    def test_at_a_lamp_and_a_dark(self):
        self.check(HOUSE, 0, A, "speaker")
        self.check(HOUSE, 1, A, "doubter")
        self.check(HOUSE, 0, NOT_A, "doubter")
        self.check(HOUSE, 1, NOT_A, "speaker")

    def test_in_a_room_without_doors_who_has_to_move_loses(self):
        for inner in (A, NOT_A, ("some", A), ("every", A)):
            self.check(HOUSE, 3, ("some", inner), "doubter")
            self.check(HOUSE, 3, ("every", inner), "speaker")

    def test_with_moves(self):
        self.check(HOUSE, 0, ("or", B, A), "speaker")
        self.check(HOUSE, 0, ("or", B, NOT_A), "doubter")
        self.check(HOUSE, 2, ("and", B, A), "speaker")
        self.check(HOUSE, 0, ("and", B, A), "doubter")
        self.check(HOUSE, 0, ("some", ("and", A, B)), "speaker")
        self.check(HOUSE, 1, ("some", A), "doubter")
        self.check(HOUSE, 1, ("every", B), "speaker")
        self.check(HOUSE, 0, ("every", B), "doubter")

    def test_the_speaker_just_where_the_statement_is_true(self):
        for world, room, statement in places_of(WORLDS + [HOUSE], PLAIN):
            self.check(world, room, statement, "speaker" if true_in(world, room, statement) else "doubter")

    def test_a_hundred_statements_one_within_the_other_and_more(self):
        world = [([1], [0]), ([], [1])]
        for depth in (99, 100, 101, 130, 300, 3000):
            for kinds in (["some"], ["every"], ["every", "some"], ["or", "every"]):
                self.check(world, 0, nested(kinds, A, depth), "speaker")
                self.check(world, 1, nested(kinds, A, depth), "doubter")

    def test_a_world_of_forty_rooms_with_all_doors(self):
        world = [([room + 1], list(range(40))) for room in range(40)]
        self.check(world, 7, nested(["some", "every"], ("lamp", 40), 100), "speaker")
        self.check(world, 7, nested(["every", "some"], ("lamp", 40), 100), "doubter")


class BestMove(unittest.TestCase):
    def check(self, world, room, statement, wanted):
        before = copy.deepcopy(world)
        found = best_move(world, room, statement)
        self.assertIsInstance(found, int)
        self.assertEqual(found, wanted)
        self.assertEqual(world, before)

    def check_refused(self, world, room, statement):
        before = copy.deepcopy(world)
        for error in (NoMove, SayError, ValueError):
            with self.assertRaises(error):
                best_move(world, room, statement)
        self.assertEqual(world, before)

    def test_at_an_or_the_first_that_is_true(self):
        self.check(HOUSE, 0, ("or", A, B), 0)
        self.check(HOUSE, 0, ("or", B, A), 1)
        self.check(HOUSE, 2, ("or", B, A), 0)
        self.check(HOUSE, 3, ("or", B, A), 0)

    def test_at_an_and_the_first_that_is_not_true(self):
        self.check(HOUSE, 0, ("and", A, B), 1)
        self.check(HOUSE, 0, ("and", B, A), 0)
        self.check(HOUSE, 2, ("and", B, A), 0)
        self.check(HOUSE, 3, ("and", B, A), 0)

    def test_at_a_some_the_first_door_behind_which_it_is_true(self):
        self.check(HOUSE, 0, ("some", A), 0)
        self.check(HOUSE, 0, ("some", NOT_A), 1)
        self.check(HOUSE, 0, ("some", NOT_B), 2)
        self.check(HOUSE, 1, ("some", B), 0)
        self.check(HOUSE, 1, ("some", A), 0)
        self.check(HOUSE, 0, ("some", ("and", A, NOT_A)), 0)

    def test_at_an_every_the_first_door_behind_which_it_is_not_true(self):
        self.check(HOUSE, 0, ("every", NOT_A), 0)
        self.check(HOUSE, 0, ("every", A), 1)
        self.check(HOUSE, 0, ("every", B), 2)
        self.check(HOUSE, 1, ("every", A), 0)
        self.check(HOUSE, 1, ("every", B), 0)
        self.check(HOUSE, 0, ("every", ("or", A, NOT_A)), 0)

    def test_refused_at_a_lamp_and_a_dark(self):
        for room in range(4):
            for leaf in LEAVES:
                self.check_refused(HOUSE, room, leaf)

    def test_refused_in_a_room_without_doors(self):
        for inner in (A, NOT_A, ("or", A, B), ("some", A), ("every", A)):
            self.check_refused(HOUSE, 3, ("some", inner))
            self.check_refused(HOUSE, 3, ("every", inner))
            self.check_refused([([], [])], 0, ("some", inner))

    def test_not_refused_where_only_what_comes_next_has_no_move(self):
        self.check(HOUSE, 3, ("or", ("some", A), ("every", A)), 1)
        self.check(HOUSE, 3, ("and", ("every", A), ("some", A)), 1)
        self.check([([], [1]), ([], [])], 0, ("some", ("every", A)), 0)

    def test_the_first_that_leads_to_a_place_whose_winner_moves(self):
        for world, room, statement in places_of(WORLDS + [HOUSE], PLAIN):
            places = moves(world, room, statement)
            mover = mover_of(statement)
            winning = [k for k, place in enumerate(places) if winner(world, place[0], place[1]) == mover]
            if places:
                self.check(world, room, statement, winning[0] if winning else 0)
            else:
                self.check_refused(world, room, statement)

    def test_a_hundred_statements_one_within_the_other_and_more(self):
        world = [([], [0, 1]), ([1], [1])]
        for depth in (99, 100, 130, 300, 3000):
            self.check(world, 0, nested(["some"], A, depth), 0 if depth > 2 else 1)
            self.check(world, 0, nested(["every", "or", "some"], NOT_A, depth), 0)
            self.check(world, 1, nested(["or"], A, depth), 0)
            self.check(world, 0, nested(["and"], A, depth), 0)

    def test_forty_doors_and_a_great_statement(self):
        # To look at the statement anew for each of the doors would take very long.
        wide = A
        for level in range(12):
            wide = ("and", wide, wide)
        world = [([1], list(range(40))) for room in range(39)] + [([], list(range(40)))]
        self.check(world, 0, ("every", wide), 39)
        self.check(world, 0, ("some", wide), 0)


class Playing(unittest.TestCase):
    """Who plays by the best move from a place that is told as won wins, whatever the other does."""

    def check_won(self, world, room, statement, player):
        waiting = [(room, statement)]
        while waiting:
            room, statement = waiting.pop()
            self.assertEqual(winner(world, room, statement), player)
            places = moves(world, room, statement)
            if statement[0] in ("lamp", "dark"):
                self.assertEqual(true_in(world, room, statement), player == "speaker")
            elif not places:
                self.assertEqual(mover_of(statement), other_of(player))
            elif mover_of(statement) == player:
                waiting.append(places[best_move(world, room, statement)])
            else:
                waiting.extend(places)

    def test_from_all_places(self):
        for world, room, statement in places_of(WORLDS + [HOUSE], PLAIN_SHALLOW + PLAIN[::5]):
            self.check_won(world, room, statement, winner(world, room, statement))

    def test_from_places_with_greater_statements(self):
        rows = drawn_rows(3, 60, 2)
        for world in drawn_worlds(4, 12, 4, 2):
            for row in rows:
                for statement in row:
                    wanted = "speaker" if truths(world, statement)[0] else "doubter"
                    self.check_won(world, 0, statement, wanted)


if __name__ == "__main__":
    unittest.main()
