"""The interface, and what the points say of one another over the whole program."""
import importlib
import inspect
import unittest

from roomsay.game import best_move, moves, winner
from roomsay.lines import shows
from roomsay.search import weighed, weighed_row
from roomsay.statements import plain, truths
from roomsay.telling import told_apart
from tests.samples import DEEPER, WORLDS, drawn_rows, drawn_worlds, row_true_in

INTERFACE = {
    "roomsay.statements": {"truths": ["world", "statement"], "plain": ["statement"]},
    "roomsay.lines": {"has_pair": ["row"], "rows_above": ["row", "k"], "shows": ["lines", "row"]},
    "roomsay.search": {"weighed_row": ["row"], "weighed": ["statement"]},
    "roomsay.game": {
        "moves": ["world", "room", "statement"],
        "winner": ["world", "room", "statement"],
        "best_move": ["world", "room", "statement"],
    },
    "roomsay.telling": {"told_apart": ["world", "one", "other"]},
}


class Interface(unittest.TestCase):
    def test_names_and_arguments(self):
        for module, functions in INTERFACE.items():
            for name, wanted in functions.items():
                found = inspect.signature(getattr(importlib.import_module(module), name)).parameters
                self.assertEqual(list(found), wanted, name)
                for parameter in found.values():
                    self.assertIs(parameter.default, inspect.Parameter.empty)

    def test_errors(self):
        errors = importlib.import_module("roomsay.errors")
        self.assertTrue(issubclass(errors.SayError, ValueError))
        self.assertTrue(issubclass(errors.NoMove, errors.SayError))


class Whole(unittest.TestCase):
    def test_the_same_is_answered_again(self):
        for row in drawn_rows(20, 60, 2):
            self.assertEqual(weighed_row(row), weighed_row(list(row)))
        for world in drawn_worlds(21, 20, 6, 1):
            last = len(world) - 1
            self.assertEqual(told_apart(world, 0, last), told_apart(list(world), 0, last))

    def test_a_row_that_is_shown_is_sure(self):
        worlds = drawn_worlds(22, 40, 4, 2)
        for row in drawn_rows(23, 300, 2):
            answer = weighed_row(row)
            if answer[0] == "sure":
                self.assertTrue(shows(answer[1], row))
                for told_row, reason in answer[1]:
                    for world in worlds:
                        for room in range(len(world)):
                            self.assertTrue(row_true_in(world, room, told_row))

    def test_just_one_of_a_statement_and_its_not_can_be_sure(self):
        for statement in DEEPER:
            answers = (weighed(statement)[0], weighed(("not", statement))[0])
            self.assertNotEqual(answers, ("sure", "sure"))

    def test_the_doubter_wins_in_the_room_that_speaks_against_a_statement(self):
        for row in drawn_rows(24, 150, 2):
            answer = weighed_row(row)
            if answer[0] == "against":
                for statement in row:
                    self.assertEqual(winner(answer[1], answer[2], statement), "doubter")

    def test_the_speaker_wins_everywhere_about_a_sure_statement(self):
        for statement in DEEPER:
            answer = weighed(("or", statement, ("not", statement)))
            self.assertEqual(answer[0], "sure")
            row = answer[1][-1][0]
            for world in WORLDS:
                for room in range(len(world)):
                    self.assertEqual(winner(world, room, row[0]), "speaker")

    def test_a_statement_that_tells_apart_is_not_sure_and_neither_is_its_not(self):
        for world in drawn_worlds(25, 60, 6, 1):
            answer = told_apart(world, 0, len(world) - 1)
            if answer[0] == "apart":
                statement = answer[1]
                self.assertEqual(plain(statement), statement)
                self.assertEqual(weighed(statement)[0], "against")
                self.assertEqual(weighed(("not", statement))[0], "against")
                self.assertEqual(winner(world, 0, statement), "speaker")
                self.assertEqual(winner(world, len(world) - 1, statement), "doubter")

    def test_the_world_that_speaks_against_is_fit_to_be_handed_in(self):
        for row in drawn_rows(26, 100, 2):
            answer = weighed_row(row)
            if answer[0] == "against":
                world = answer[1]
                self.assertEqual(told_apart(world, 0, 0)[0], "alike")
                for statement in row:
                    if moves(world, answer[2], statement):
                        self.assertIn(best_move(world, answer[2], statement), range(len(world) + 2))
                    self.assertFalse(truths(world, statement)[answer[2]])


if __name__ == "__main__":
    unittest.main()
