import copy
import random
import unittest

from roomsay.lines import shows
from roomsay.search import weighed, weighed_row
from roomsay.statements import plain, truths
from tests.samples import (
    DEEPER, LEAVES, PLAIN_SHALLOW, SHALLOW, WORLDS, drawn_plain, drawn_rows, is_sure, is_world, nested, row_true_in,
    true_in, two_room_worlds,
)

A, NOT_A = ("lamp", 1), ("dark", 1)
B, NOT_B = ("lamp", 2), ("dark", 2)
C, NOT_C = ("lamp", 3), ("dark", 3)
GREAT = 10 ** 40


def in_turn(draw, kind, levels, doors):
    """`and`s and `or`s in turn; round those with `doors` levels of them in all, an `every` or a `some`."""
    if levels == 0:
        return (draw.choice(("lamp", "dark")), draw.randint(1, 8))
    other = "or" if kind == "and" else "and"
    statement = (kind, in_turn(draw, other, levels - 1, doors), in_turn(draw, other, levels - 1, doors))
    return (draw.choice(("every", "some")), statement) if levels == doors else statement


class Weighed(unittest.TestCase):
    def check_lines(self, answer, row):
        self.assertEqual((len(answer), answer[0]), (2, "sure"))
        lines = answer[1]
        self.assertIsInstance(lines, list)
        for line in lines:
            self.assertIsInstance(line, tuple)
            told_row, reason = line
            self.assertIsInstance(told_row, list)
            for statement in told_row:
                self.assertIsInstance(statement, tuple)
            self.assertIsInstance(reason, tuple)
        self.assertIs(shows(lines, row), True)

    def check_world(self, answer):
        self.assertEqual((len(answer), answer[0]), (3, "against"))
        world, room = answer[1:]
        self.assertTrue(is_world(world), world)
        self.assertIsInstance(room, int)
        self.assertIn(room, range(len(world)))

    def check(self, row, sure):
        before = copy.deepcopy(row)
        answer = weighed_row(row)
        self.assertEqual(row, before)
        self.assertIsInstance(answer, tuple)
        if sure:
            self.check_lines(answer, before)
        else:
            self.check_world(answer)
            for statement in row:
                self.assertIs(truths(answer[1], statement)[answer[2]], False, (row, answer))

    def check_statement(self, statement, sure):
        before = copy.deepcopy(statement)
        answer = weighed(statement)
        self.assertEqual(statement, before)
        self.assertIsInstance(answer, tuple)
        if sure:
            self.check_lines(answer, [plain(statement)])
        else:
            self.check_world(answer)
            self.assertIs(truths(answer[1], statement)[answer[2]], False, (statement, answer))


class WeighedRow(Weighed):
    def test_the_empty_row(self):
        self.check([], False)

    def test_rows_with_a_pair(self):
        self.check([A, NOT_A], True)
        self.check([NOT_A, A], True)
        self.check([NOT_A, NOT_A, B, A, A], True)
        self.check([("some", A), B, ("and", A, B), NOT_B, ("every", C)], True)

    def test_lamps_and_darks_without_a_pair(self):
        for row in ([A], [NOT_A], [A, B], [NOT_A, NOT_B], [A, NOT_B, C], [A, A], [NOT_A, NOT_A], [NOT_A, B, NOT_A]):
            self.check(row, False)

    def test_or(self):
        self.check([("or", A, NOT_A)], True)
        self.check([("or", A, B), NOT_B], True)
        self.check([NOT_B, ("or", A, ("or", C, B))], True)
        self.check([("or", ("or", NOT_A, B), ("or", C, A))], True)
        self.check([("or", A, B)], False)
        self.check([("or", A, NOT_B), ("or", C, A)], False)
        self.check([("or", NOT_A, NOT_A), NOT_A], False)

    def test_and(self):
        self.check([("and", A, B), NOT_A, NOT_B], True)
        self.check([("and", A, B), NOT_A], False)
        self.check([("and", A, B), NOT_B], False)
        self.check([NOT_A, ("and", A, A)], True)
        self.check([("and", A, NOT_A)], False)
        self.check([("and", A, B), ("and", NOT_A, B), ("and", A, NOT_B), ("and", NOT_A, NOT_B)], True)
        self.check([("and", A, B), ("and", NOT_A, B), ("and", NOT_A, NOT_B)], False)

    def test_and_within_or_and_or_within_and(self):
        self.check([("and", ("or", A, NOT_A), ("or", NOT_B, B))], True)
        self.check([("and", ("or", A, NOT_A), ("or", C, B))], False)
        self.check([("and", ("or", A, C), ("or", NOT_B, B))], False)
        self.check([("or", ("and", A, B), ("or", NOT_A, NOT_B))], True)
        self.check([("or", ("and", A, B), ("or", NOT_A, C))], False)
        self.check([("or", ("and", A, ("or", B, C)), ("or", NOT_A, ("and", NOT_B, NOT_C)))], True)

    def test_an_and_beside_one_of_its_statements(self):
        self.check([("and", A, B), A], False)
        self.check([("and", A, B), B], False)
        self.check([("and", A, B), A, NOT_A], True)
        self.check([("and", NOT_A, B), ("or", NOT_A, C), ("and", A, A)], True)
        self.check([("and", ("or", A, B), C), ("or", A, B), ("and", NOT_A, NOT_B)], True)
        self.check([("and", ("or", A, B), C), ("or", A, B), NOT_C], False)

    def test_every(self):
        self.check([("every", A)], False)
        self.check([("every", ("or", A, NOT_A))], True)
        self.check([("every", ("every", ("or", A, NOT_A)))], True)
        self.check([("every", ("every", A))], False)
        self.check([("every", A), NOT_A], False)
        self.check([("every", A), A], False)

    def test_some(self):
        self.check([("some", A)], False)
        self.check([("some", A), ("some", NOT_A)], False)
        self.check([("some", ("or", A, NOT_A))], False)
        self.check([("some", A), NOT_A], False)

    def test_every_and_some(self):
        self.check([("every", A), ("some", NOT_A)], True)
        self.check([("some", NOT_A), B, ("every", A)], True)
        self.check([("every", A), ("some", NOT_B)], False)
        self.check([("every", A), ("every", NOT_A)], False)
        self.check([("every", ("and", A, B)), ("some", NOT_A), ("some", NOT_B)], True)
        self.check([("every", ("and", A, B)), ("some", NOT_A)], False)
        self.check([("every", A), ("some", ("and", NOT_A, B)), ("some", NOT_B)], True)
        self.check([("every", A), ("some", ("and", NOT_A, B)), ("some", B)], False)
        self.check([("every", ("every", A)), ("some", ("some", NOT_A))], True)
        self.check([("every", ("some", A)), ("some", ("every", NOT_A))], True)
        self.check([("every", ("every", A)), ("some", ("every", NOT_A))], False)

    def test_only_one_of_several_every_shows_the_row(self):
        sure, other, another = ("every", ("or", B, NOT_B)), ("every", A), ("every", C)
        self.check([sure, other, another], True)
        self.check([other, sure, another], True)
        self.check([other, another, sure], True)
        self.check([("some", NOT_C), other, another], True)
        self.check([("some", NOT_C), another, other], True)
        # Each of the two statements is needed, but in two different rooms.
        self.check([other, ("every", NOT_A)], False)

    def test_several_every_that_no_line_shows(self):
        self.check([("every", A), ("every", B)], False)
        self.check([("every", A), ("every", B), ("some", C)], False)
        self.check([("every", A), ("every", ("every", B)), ("every", NOT_A), NOT_C], False)
        self.check([("every", ("or", A, B)), ("every", ("and", A, NOT_C)), ("some", NOT_C)], False)

    def test_several_every_whose_rooms_are_the_same(self):
        self.check([("every", A), ("every", A)], False)
        self.check([("every", A), ("every", ("and", A, A)), ("every", ("or", A, A))], False)
        self.check([("every", NOT_A), ("every", ("or", NOT_A, NOT_A))], False)
        self.check([("every", ("every", NOT_A)), ("every", ("every", ("and", NOT_A, B)))], False)

    def test_a_door_leads_to_a_room_that_speaks_against_all_within_the_somes(self):
        self.check([("every", A), ("some", NOT_B), ("some", NOT_C)], False)
        self.check([("every", A), ("some", ("or", NOT_B, ("every", NOT_C))), ("some", ("some", A))], False)

    def test_lamps_of_great_numbers(self):
        self.check([("lamp", GREAT), ("dark", GREAT)], True)
        self.check([("lamp", GREAT), ("dark", GREAT + 1)], False)
        self.check([("dark", GREAT), ("dark", GREAT + 1), ("every", ("dark", GREAT + 2))], False)
        self.check([("every", ("lamp", GREAT)), ("some", ("dark", GREAT))], True)
        self.check([("every", ("lamp", GREAT)), ("some", ("dark", GREAT - 1))], False)

    def test_just_the_needed_statement_stands_more_than_once(self):
        both = ("and", A, B)
        self.check([both, both, NOT_A, NOT_A, NOT_B, NOT_B], True)
        self.check([("or", A, A), ("or", A, A), ("or", NOT_A, NOT_A)], True)
        self.check([("every", A), ("some", NOT_A), ("every", A), ("some", NOT_A)], True)
        self.check([("every", A), ("some", A)], False)
        self.check([("every", ("or", A, B)), ("some", ("or", A, B)), ("some", NOT_B)], True)

    def test_a_statement_beside_its_own_not(self):
        for statement in DEEPER:
            for other in (C, ("and", B, C), ("every", B)):
                self.check([plain(statement), other, plain(("not", statement))], True)
            self.check([plain(("not", statement)), plain(statement)], True)

    def test_a_statement_beside_its_own_not_within_others(self):
        for statement in SHALLOW:
            straight, turned = plain(statement), plain(("not", statement))
            self.check([("or", straight, C), ("or", B, turned)], True)
            self.check([("and", straight, C), ("or", turned, NOT_C)], True)
            self.check([("and", ("or", B, straight), ("or", straight, C)), turned], True)
            self.check([("every", ("or", B, straight)), ("some", turned)], True)

    def test_the_first_answer_is_not_kept_for_another_row(self):
        self.check([A, NOT_A], True)
        self.check([A], False)
        self.check([A, NOT_A], True)
        self.check([], False)

    def test_two_statements_of_all_sorts(self):
        rows = [[one, other] for one in PLAIN_SHALLOW for other in PLAIN_SHALLOW]
        self.assertEqual({is_sure(row) for row in rows}, {True, False})
        for row in rows:
            self.check(row, is_sure(row))

    def test_one_statement_of_all_sorts_within_all_sorts(self):
        statements = {plain(statement): True for statement in DEEPER}
        for statement in statements:
            for row in ([statement], [statement, ("some", NOT_A)], [("every", B), statement, A]):
                self.check(row, is_sure(row))

    def test_many_rows(self):
        for lamps in (1, 2, 3):
            rows = drawn_rows(lamps, 1500, lamps)
            sure = [row for row in rows if is_sure(row)]
            self.assertGreater(len(sure), 150)
            self.assertGreater(len(rows) - len(sure), 150)
            for row in rows:
                self.check(row, row in sure)

    def test_a_sure_row_is_true_in_each_room(self):
        for row in drawn_rows(9, 400, 2):
            if weighed_row(row)[0] == "sure":
                for world in WORLDS + two_room_worlds()[::7]:
                    for room in range(len(world)):
                        self.assertTrue(row_true_in(world, room, row), (world, room, row))

    def test_a_row_that_is_not_true_in_some_room_is_not_sure(self):
        for row in drawn_rows(10, 400, 2):
            rooms = [row_true_in(world, room, row) for world in WORLDS for room in range(len(world))]
            if not all(rooms):
                self.assertEqual(weighed_row(row)[0], "against", row)

    def test_a_hundred_statements_one_within_the_other_and_more(self):
        alone = (["or"], ["and"], ["every"], ["some"])
        in_turns = (["every", "or"], ["some", "and"], ["every", "every", "or", "and"])
        for depth in (99, 100, 101, 130, 300):
            for kinds in alone + in_turns:
                deep = nested(kinds, A, depth)
                self.check([deep], False)
                self.check([deep, plain(("not", deep))], True)
                self.check([plain(("not", deep)), B, deep], True)
            self.check([nested(["every"], ("or", A, NOT_A), depth)], True)
            self.check([nested(["or"], NOT_C, depth)], True)
            self.check([nested(["and"], A, depth), NOT_A, NOT_C], True)

    def test_far_more_than_a_hundred_one_within_the_other(self):
        for kinds in (["or"], ["and"], ["every"], ["some", "or"]):
            deep = nested(kinds, A, 2000)
            self.assertEqual(weighed_row([deep])[0], "against")
            self.assertEqual(weighed_row([deep, plain(("not", deep))])[0], "sure")

    def test_many_ands_that_have_no_part_in_it(self):
        # To take them apart one after the other, each into two rows, would never come to an end.
        idle = [("and", ("lamp", 2 * k), ("lamp", 2 * k + 1)) for k in range(10, 90)]
        self.check(idle, False)
        self.check(idle + [("every", ("or", A, NOT_A))], True)
        self.check(idle + [("and", A, B), ("or", NOT_A, NOT_B)], True)
        self.check([("some", one) for one in idle] + [("every", ("and", A, B)), ("some", ("or", NOT_A, NOT_B))], True)
        self.check([("or", ("and", A, ("every", B)), one) for one in idle], False)

    def test_many_ands_beside_one_of_their_statements(self):
        lit = ("some", A)
        needless = [("and", lit, ("lamp", k)) for k in range(10, 90)]
        core = ("and", ("every", ("or", NOT_A, B)), ("every", ("or", C, NOT_A)))
        self.check([lit] + needless + [core], True)
        self.check([core] + needless + [lit], True)
        self.check([("or", lit, C)] + needless, False)
        self.check(needless + [core], False)

    def test_many_statements(self):
        draw = random.Random(5)
        for count in range(5):
            statement = drawn_plain(draw, 400, 4)
            self.check([statement, plain(("not", statement))], True)
            self.check([statement, ("dark", 5)], weighed_row([statement])[0] == "sure")

    def test_a_great_statement_of_ands_and_ors_in_turn_beside_its_own_not(self):
        # Only if the two are seen to stand beside one another does it end soon.
        draw = random.Random(7)
        for doors in (0, 3):
            statement = in_turn(draw, "or", 10, doors)
            turned = plain(("not", statement))
            for row in ([statement, turned], [turned, B, statement], [("and", turned, turned), ("or", C, statement)]):
                self.check(row, True)

    def test_what_is_told_is_not_the_row_itself(self):
        row = [A, ("or", B, NOT_A)]
        lines = weighed_row(row)[1]
        for told_row, reason in lines:
            told_row.append("scribble")
        self.assertEqual(row, [A, ("or", B, NOT_A)])
        self.check(row, True)


class WeighedStatement(Weighed):
    def test_statements_with_nots(self):
        self.check_statement(("not", A), False)
        self.check_statement(("not", NOT_A), False)
        self.check_statement(("not", ("and", A, NOT_A)), True)
        self.check_statement(("not", ("and", A, ("not", A))), True)
        self.check_statement(("not", ("or", A, NOT_A)), False)
        self.check_statement(("not", ("not", ("or", A, ("not", A)))), True)
        self.check_statement(("every", ("not", ("and", A, NOT_A))), True)
        self.check_statement(("not", ("some", ("and", A, NOT_A))), True)
        self.check_statement(("not", ("every", ("and", A, NOT_A))), False)

    def test_statements_without_nots(self):
        self.check_statement(A, False)
        self.check_statement(("or", A, NOT_A), True)
        self.check_statement(("every", A), False)
        self.check_statement(("some", ("or", A, NOT_A)), False)

    def test_a_statement_or_its_own_not(self):
        for statement in DEEPER:
            self.check_statement(("or", statement, ("not", statement)), True)
            self.check_statement(("or", ("not", statement), statement), True)
            self.check_statement(("and", statement, ("not", statement)), False)
            self.check_statement(("every", ("or", statement, ("not", statement))), True)
            self.check_statement(("some", ("or", statement, ("not", statement))), False)

    def follows(self, first, second):
        return ("or", ("not", first), second)

    def test_what_follows(self):
        both, either = ("and", A, B), ("or", A, B)
        for first, second in (
            (("every", both), ("and", ("every", A), ("every", B))),
            (("and", ("every", A), ("every", B)), ("every", both)),
            (("some", either), ("or", ("some", A), ("some", B))),
            (("or", ("some", A), ("some", B)), ("some", either)),
            (("some", both), ("and", ("some", A), ("some", B))),
            (("or", ("every", A), ("every", B)), ("every", either)),
            (("and", ("every", A), ("some", B)), ("some", both)),
            (("every", either), ("or", ("every", A), ("some", B))),
            (("every", self.follows(A, B)), self.follows(("every", A), ("every", B))),
            (("not", ("every", A)), ("some", ("not", A))),
            (("some", ("not", A)), ("not", ("every", A))),
        ):
            self.check_statement(self.follows(first, second), True)

    def test_what_does_not_follow(self):
        both, either = ("and", A, B), ("or", A, B)
        for first, second in (
            (("every", A), A),
            (A, ("every", A)),
            (A, ("some", A)),
            (("every", A), ("some", A)),
            (("some", A), ("every", A)),
            (("and", ("some", A), ("some", B)), ("some", both)),
            (("every", either), ("or", ("every", A), ("every", B))),
            (("every", A), ("every", ("every", A))),
            (("every", ("every", A)), ("every", A)),
            (("some", ("every", A)), ("every", ("some", A))),
            (("every", ("some", A)), ("some", ("every", A))),
        ):
            self.check_statement(self.follows(first, second), False)

    def test_all_sorts_within_all_sorts(self):
        for statement in DEEPER:
            self.check_statement(statement, is_sure([plain(statement)]))
            self.check_statement(("not", statement), is_sure([plain(("not", statement))]))

    def test_a_sure_statement_is_true_in_each_room(self):
        for statement in [("or", leaf, one) for leaf in LEAVES for one in SHALLOW]:
            sure = weighed(statement)[0] == "sure"
            rooms = [true_in(world, room, statement) for world in two_room_worlds() for room in range(2)]
            # A world of two rooms is enough to speak against statements as shallow as these.
            self.assertEqual(sure, all(rooms), statement)

    def test_a_hundred_statements_one_within_the_other_and_more(self):
        for depth in (98, 99, 100, 130, 300):
            for kinds in (["not"], ["every", "not"], ["and", "not", "some"], ["not", "or", "every"]):
                deep = nested(kinds, A, depth)
                self.check_statement(("or", deep, ("not", deep)), True)
                self.check_statement(("and", deep, ("not", deep)), False)
            self.check_statement(nested(["not"], ("or", A, NOT_A), depth), depth % 2 == 1)

    def test_lamps_of_great_numbers(self):
        self.check_statement(("or", ("lamp", GREAT), ("not", ("lamp", GREAT))), True)
        self.check_statement(("or", ("lamp", GREAT), ("not", ("lamp", GREAT + 1))), False)


if __name__ == "__main__":
    unittest.main()
