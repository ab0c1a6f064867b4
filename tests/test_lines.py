import copy
import unittest

from roomsay.lines import has_pair, rows_above, shows
from tests.samples import LEAVES, PLAIN_SHALLOW, WORLDS, nested, row_true_in, two_room_worlds

A, NOT_A = ("lamp", 1), ("dark", 1)
B, NOT_B = ("lamp", 2), ("dark", 2)
GREAT = 10 ** 30
PAIR = ("pair",)


class HasPair(unittest.TestCase):
    def check(self, row, wanted):
        self.assertIs(has_pair(row), wanted)

    def test_the_empty_row(self):
        self.check([], False)

    def test_a_lamp_and_a_dark_of_the_same_lamp(self):
        self.check([A, NOT_A], True)
        self.check([NOT_A, A], True)
        self.check([("dark", GREAT), ("lamp", GREAT)], True)

    def test_with_others_before_between_and_behind(self):
        other = ("or", B, B)
        self.check([other, A, ("some", A), NOT_A, B], True)
        self.check([NOT_B, NOT_A, other, ("every", A), A], True)
        self.check([A, B, ("lamp", 3), ("dark", 4), NOT_B], True)

    def test_of_two_different_lamps(self):
        self.check([A, NOT_B], False)
        self.check([NOT_A, B], False)
        self.check([("lamp", GREAT), ("dark", GREAT + 1)], False)
        self.check([A, B, ("lamp", 3), ("dark", 4), ("dark", 5)], False)

    def test_one_alone_or_one_twice(self):
        for row in ([A], [NOT_A], [A, A], [NOT_A, NOT_A]):
            self.check(row, False)

    def test_one_of_them_only_within_another_statement(self):
        for kind in ("every", "some"):
            self.check([A, (kind, NOT_A)], False)
            self.check([(kind, A), NOT_A], False)
            self.check([(kind, A), (kind, NOT_A)], False)
        for kind in ("or", "and"):
            self.check([(kind, A, NOT_A)], False)
            self.check([A, (kind, NOT_A, B)], False)
            self.check([A, (kind, B, NOT_A)], False)
            self.check([(kind, A, B), NOT_A], False)
            self.check([(kind, A, NOT_A), A], False)

    def test_two_that_speak_against_each_other_but_are_no_lamps(self):
        self.check([("every", A), ("some", NOT_A)], False)
        self.check([("or", A, B), ("and", NOT_A, NOT_B)], False)

    def test_the_row_stays_as_it_was(self):
        row = [A, ("or", A, B), NOT_A]
        has_pair(row)
        self.assertEqual(row, [A, ("or", A, B), NOT_A])


class RowsAbove(unittest.TestCase):
    def check(self, row, k, wanted):
        before = copy.deepcopy(row)
        found = rows_above(row, k)
        self.assertEqual(found, wanted)
        self.assertIsInstance(found, list)
        for above in found:
            self.assertIsInstance(above, list)
        self.assertEqual(row, before)

    def test_by_an_or(self):
        one = ("or", A, ("some", B))
        self.check([one], 0, [[A, ("some", B)]])
        self.check([one, B, NOT_B], 0, [[A, ("some", B), B, NOT_B]])
        self.check([B, one, NOT_B], 1, [[B, A, ("some", B), NOT_B]])
        self.check([B, NOT_B, one], 2, [[B, NOT_B, A, ("some", B)]])

    def test_by_an_and(self):
        both = ("and", A, ("some", B))
        self.check([both], 0, [[A], [("some", B)]])
        self.check([both, B, NOT_B], 0, [[A, B, NOT_B], [("some", B), B, NOT_B]])
        self.check([B, both, NOT_B], 1, [[B, A, NOT_B], [B, ("some", B), NOT_B]])
        self.check([B, NOT_B, both], 2, [[B, NOT_B, A], [B, NOT_B, ("some", B)]])

    def test_by_an_every(self):
        all_a = ("every", A)
        self.check([all_a], 0, [[A]])
        self.check([all_a, ("some", B), ("some", NOT_B)], 0, [[A, B, NOT_B]])
        self.check([("some", B), all_a, ("some", NOT_B)], 1, [[A, B, NOT_B]])
        self.check([("some", NOT_B), ("some", B), all_a], 2, [[A, NOT_B, B]])

    def test_by_an_every_all_but_the_some_is_left_out(self):
        row = [A, ("every", NOT_A), ("or", ("some", A), B), ("every", ("some", B)), ("some", ("every", B)),
               ("and", ("some", A), B), NOT_B, ("some", ("or", A, B))]
        self.check(row, 1, [[NOT_A, ("every", B), ("or", A, B)]])
        self.check(row, 3, [[("some", B), ("every", B), ("or", A, B)]])

    def test_a_some_that_stands_twice_counts_twice(self):
        self.check([("some", A), ("every", A), ("some", A)], 1, [[A, A, A]])

    def test_only_the_statement_at_the_place_is_taken(self):
        one, both, all_a = ("or", A, B), ("and", A, B), ("every", A)
        self.check([one, one], 0, [[A, B, one]])
        self.check([one, one], 1, [[one, A, B]])
        self.check([both, both], 0, [[A, both], [B, both]])
        self.check([both, both], 1, [[both, A], [both, B]])
        self.check([all_a, all_a], 1, [[A]])
        self.check([both, one, all_a], 1, [[both, A, B, all_a]])
        self.check([both, one, all_a], 0, [[A, one, all_a], [B, one, all_a]])

    def test_only_the_outermost_is_taken_apart(self):
        self.check([("or", ("or", A, B), ("and", A, B))], 0, [[("or", A, B), ("and", A, B)]])
        self.check([("every", ("every", A)), ("some", ("some", B))], 0, [[("every", A), ("some", B)]])

    def test_deep_statements(self):
        for depth in (100, 130, 300):
            deep = nested(["and", "every", "some"], A, depth)
            self.check([("or", deep, B), deep], 0, [[deep, B, deep]])

    def test_the_rows_are_lists_of_their_own(self):
        row = [("and", A, B), NOT_A, ("every", A), ("or", A, B)]
        for k in (0, 2, 3):
            for above in rows_above(row, k):
                above.append("scribble")
                above[0] = "scribble"
        self.assertEqual(row, [("and", A, B), NOT_A, ("every", A), ("or", A, B)])
        first, second = rows_above(row, 0)
        self.assertIsNot(first, second)

    def test_a_row_is_untrue_just_where_a_row_above_is(self):
        for statement in PLAIN_SHALLOW:
            if statement[0] in ("or", "and"):
                for row, k in (([statement], 0), ([("every", B), statement], 1), ([statement, ("some", NOT_A)], 0)):
                    for world in WORLDS:
                        for room in range(len(world)):
                            above = [row_true_in(world, room, one) for one in rows_above(row, k)]
                            self.assertEqual(row_true_in(world, room, row), all(above))


class Shows(unittest.TestCase):
    def check(self, lines, row, wanted):
        before = copy.deepcopy((lines, row))
        self.assertIs(shows(lines, row), wanted)
        self.assertEqual((lines, row), before)

    def right(self, lines):
        self.check(lines, list(lines[-1][0]), True)

    def wrong(self, lines):
        self.check(lines, list(lines[-1][0]), False)

    def test_by_a_pair(self):
        self.right([([A, NOT_A], PAIR)])
        self.right([([B, NOT_A, ("some", A), A], PAIR)])
        self.wrong([([A, NOT_B], PAIR)])
        self.wrong([([], PAIR)])
        self.wrong([([("or", A, NOT_A)], PAIR)])

    def test_by_an_or(self):
        above = ([A, NOT_A], PAIR)
        self.right([above, ([("or", A, NOT_A)], ("or", 0, 0))])
        self.wrong([above, ([("or", NOT_A, A)], ("or", 0, 0))])
        self.wrong([above, ([("or", A, B)], ("or", 0, 0))])
        self.right([([B, A, NOT_A, B], PAIR), ([B, ("or", A, NOT_A), B], ("or", 1, 0))])
        self.wrong([([A, NOT_A, B], PAIR), ([B, ("or", A, NOT_A)], ("or", 1, 0))])

    def test_by_an_and(self):
        row = [A, ("and", NOT_A, ("or", B, NOT_B)), NOT_B]
        lines = [
            ([A, B, NOT_B, NOT_B], PAIR),
            ([A, ("or", B, NOT_B), NOT_B], ("or", 1, 0)),
            ([A, NOT_A, NOT_B], PAIR),
        ]
        self.right(lines + [(row, ("and", 1, 2, 1))])
        self.wrong(lines + [(row, ("and", 1, 1, 2))])
        self.wrong(lines + [(row, ("and", 1, 2, 2))])
        self.wrong(lines + [(row, ("and", 1, 1, 1))])
        self.wrong(lines + [(row, ("and", 1, 2, 0))])
        self.wrong(lines + [(row, ("and", 1, 0, 1))])

    def test_by_an_and_of_the_same_twice(self):
        self.right([([A, NOT_A], PAIR), ([("and", A, A), NOT_A], ("and", 0, 0, 0))])

    def test_by_an_every(self):
        row = [B, ("some", NOT_A), ("every", A), ("some", B)]
        above = ([A, NOT_A, B], PAIR)
        self.right([above, (row, ("every", 2, 0))])
        self.wrong([([A, B, NOT_A], PAIR), (row, ("every", 2, 0))])
        self.wrong([([NOT_A, A, B], PAIR), (row, ("every", 2, 0))])
        self.wrong([([A, NOT_A], PAIR), (row, ("every", 2, 0))])
        self.wrong([([B, A, NOT_A, B], PAIR), (row, ("every", 2, 0))])

    def test_all_reasons_together(self):
        # Where every room has A or B, every room has A or some room has B.
        lines = [
            ([A, NOT_A, B], PAIR),
            ([A, NOT_B, B], PAIR),
            ([A, ("and", NOT_A, NOT_B), B], ("and", 1, 0, 1)),
            ([("some", ("and", NOT_A, NOT_B)), ("every", A), ("some", B)], ("every", 1, 2)),
            ([("some", ("and", NOT_A, NOT_B)), ("or", ("every", A), ("some", B))], ("or", 1, 3)),
            ([("or", ("some", ("and", NOT_A, NOT_B)), ("or", ("every", A), ("some", B)))], ("or", 0, 4)),
        ]
        for count in range(1, len(lines) + 1):
            self.right(lines[:count])
        self.check(lines, [], False)
        for left_out in range(len(lines) - 1):
            self.wrong(lines[:left_out] + lines[left_out + 1:])

    def test_no_lines_show_nothing(self):
        self.check([], [], False)
        self.check([], [A, NOT_A], False)

    def test_the_last_line_has_just_that_row(self):
        lines = [([A, NOT_A], PAIR), ([B, NOT_B], PAIR)]
        self.check(lines, [B, NOT_B], True)
        for row in ([A, NOT_A], [NOT_B, B], [B, NOT_B, B], [B], [], [B, NOT_A]):
            self.check(lines, row, False)

    def test_each_line_must_be_right(self):
        bad = ([A], PAIR)
        good = ([A, NOT_A], PAIR)
        self.right([good, good, good])
        self.wrong([bad, good, good])
        self.wrong([good, bad, good])
        self.wrong([good, good, bad])

    def test_lines_that_nothing_tells_are_no_harm(self):
        self.right([([A, NOT_A], PAIR), ([B, NOT_B], PAIR), ([("or", A, NOT_A)], ("or", 0, 0))])

    def test_a_sort_that_is_not_the_one_at_the_place(self):
        above = [([A, NOT_A], PAIR)]
        for statement in (("or", A, NOT_A), ("and", A, A), ("every", A), ("some", A), A):
            row = [statement, NOT_A]
            for reason in (("or", 0, 0), ("and", 0, 0, 0), ("every", 0, 0)):
                wanted = (statement[0], reason[0]) == ("and", "and")
                self.check(above + [(row, reason)], row, wanted)
        self.wrong(above + [([("every", A), ("some", NOT_A)], ("every", 1, 0))])
        self.wrong(above + [([("every", A), ("some", NOT_A)], ("or", 0, 0))])
        self.right(above + [([("every", A), ("some", NOT_A)], ("every", 0, 0))])

    def test_a_sort_that_gives_no_rows_above(self):
        above = [([A, NOT_A], PAIR)]
        for reason in (("some", 0, 0), ("lamp", 0, 0), ("dark", 0, 0), ("not", 0, 0), ("pair", 0, 0)):
            for statement in (("some", A), A, NOT_A):
                self.wrong(above + [([statement, NOT_B], reason)])

    def test_a_reason_that_tells_too_few_or_too_many_lines(self):
        above = [([A, NOT_A], PAIR), ([A, NOT_A], PAIR)]
        for reason in (("or",), ("or", 0), ("or", 0, 0, 1), ("or", 0, 0, 0, 0)):
            self.wrong(above + [([("or", A, NOT_A)], reason)])
        for reason in (("and",), ("and", 0), ("and", 0, 0), ("and", 0, 0, 1, 1)):
            self.wrong(above + [([("and", A, A), NOT_A], reason)])
        for reason in (("every",), ("every", 0), ("every", 0, 0, 1)):
            self.wrong(above + [([("every", A), ("some", NOT_A)], reason)])

    def test_places_that_lie_outside(self):
        above = [([A, NOT_A], PAIR), ([A, NOT_A, NOT_A], PAIR)]
        cases = (
            ([("or", A, NOT_A)], "or", (0,)),
            ([("and", A, A), NOT_A], "and", (0, 0)),
            ([("every", A), ("some", NOT_A)], "every", (0,)),
        )
        for row, kind, told in cases:
            self.right(above + [(row, (kind, 0) + told)])
            for k in (-GREAT, -3, -2, -1, len(row), len(row) + 1, GREAT):
                self.wrong(above + [(row, (kind, k) + told)])
        self.wrong(above + [([], ("or", 0, 0))])
        self.wrong(above + [([], ("and", -1, 0, 0))])

    def test_a_place_below_nought_is_not_counted_from_the_end(self):
        above = [([B, A, NOT_A], PAIR), ([B, A, B, A, NOT_A], PAIR)]
        row = [B, ("or", A, NOT_A)]
        self.right(above + [(row, ("or", 1, 0))])
        self.wrong(above + [(row, ("or", -1, 0))])
        self.wrong(above + [(row, ("or", -1, 1))])

    def test_line_numbers_that_lie_outside(self):
        above = [([A, NOT_A], PAIR), ([A, NOT_A], PAIR)]
        for told in (-GREAT, -4, -3, -2, -1, 2, 3, 4, GREAT):
            self.wrong(above + [([("or", A, NOT_A)], ("or", 0, told))])
            self.wrong(above + [([("and", A, A), NOT_A], ("and", 0, told, 0))])
            self.wrong(above + [([("and", A, A), NOT_A], ("and", 0, 0, told))])
            self.wrong(above + [([("every", A), ("some", NOT_A)], ("every", 0, told))])
        for told in (0, 1):
            self.right(above + [([("or", A, NOT_A)], ("or", 0, told))])
            self.right(above + [([("and", A, A), NOT_A], ("and", 0, told, 1 - told))])
            self.right(above + [([("every", A), ("some", NOT_A)], ("every", 0, told))])

    def test_a_line_number_below_nought_is_not_counted_from_the_end(self):
        upper = ([A, NOT_A], PAIR)
        for row, reason in (
            ([("or", A, NOT_A)], ("or", 0, -1)),
            ([("and", A, A), NOT_A], ("and", 0, -1, 0)),
            ([("and", A, A), NOT_A], ("and", 0, 0, -1)),
            ([("every", A), ("some", NOT_A)], ("every", 0, -1)),
        ):
            self.wrong([upper, (row, reason), upper])

    def test_a_line_that_tells_a_later_one(self):
        lower, upper = [("or", A, NOT_A)], ([A, NOT_A], PAIR)
        self.check([(lower, ("or", 0, 1)), upper], [A, NOT_A], False)
        self.check([(lower, ("or", 0, 1)), upper, (lower, ("or", 0, 1))], lower, False)
        self.check([upper, (lower, ("or", 0, 2)), upper, (lower, ("or", 0, 0))], lower, False)

    def test_a_line_that_tells_itself(self):
        for row, reason in (
            ([("or", A, NOT_A)], ("or", 0, 0)),
            ([("and", A, A), NOT_A], ("and", 0, 0, 0)),
            ([("every", A), ("some", ("every", A))], ("every", 0, 0)),
        ):
            self.wrong([(row, reason)])
        self.wrong([([A, NOT_A], PAIR), ([("and", A, A), NOT_A], ("and", 0, 0, 1))])
        self.wrong([([A, NOT_A], PAIR), ([("and", A, A), NOT_A], ("and", 0, 1, 0))])

    def test_two_lines_that_tell_each_other(self):
        row = [("or", A, NOT_A)]
        self.check([(row, ("or", 0, 1)), ([A, NOT_A], ("or", 0, 0))], [A, NOT_A], False)

    def test_deep_statements(self):
        for depth in (99, 100, 130, 300):
            row = [nested(["or"], A, depth), ("dark", 3)]
            lines = []
            while row[0][0] == "or":
                lines.insert(0, row)
                row = [row[0][1], row[0][2]] + row[1:]
            lines.insert(0, row)
            told = [(lines[0], PAIR)] + [(row, ("or", 0, place)) for place, row in enumerate(lines[1:])]
            self.right(copy.deepcopy(told))

    def test_many_lines(self):
        lines = [([A, NOT_A], PAIR)] + [([("and", A, A), NOT_A], ("and", 0, 0, 0)) for count in range(3000)]
        self.right(lines)
        self.wrong(lines[1:])

    def test_a_row_that_is_shown_is_sure(self):
        two = [[one, other] for one in LEAVES for other in LEAVES if has_pair([one, other])]
        three = [row + [other] for row in two for other in LEAVES]
        lines = [(row, PAIR) for row in two + three]
        numbers = range(len(lines))
        reasons = (
            [PAIR]
            + [(kind, 0, told) for kind in ("or", "every") for told in numbers]
            + [("and", 0, first, second) for first in numbers for second in numbers]
        )
        others = LEAVES + [("some", leaf) for leaf in LEAVES]
        rows = [[statement, other] for statement in PLAIN_SHALLOW for other in others]
        shown = [row for row in rows if any(shows(lines + [(row, reason)], row) for reason in reasons)]
        self.assertEqual({row[0][0] for row in shown}, {"lamp", "dark", "or", "and", "every"})
        for row in shown:
            for world in two_room_worlds():
                for room in range(2):
                    self.assertTrue(row_true_in(world, room, row), (world, room, row))


if __name__ == "__main__":
    unittest.main()
