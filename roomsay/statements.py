"""Statements about the rooms of a world: where they are true, and their plain form."""

LEAVES = ("lamp", "dark")
JOINS = ("and", "or")
TURNED = {"lamp": "dark", "dark": "lamp", "and": "or", "or": "and", "every": "some", "some": "every"}


def statements_within(statement):
    if statement[0] in LEAVES:
        return []
    return list(statement[1:])


# A list of what is still to be looked at stands in the place of a recursion,
# so that statements may lie within one another as deep as they like.
def outside_in(statement):
    parts = []
    waiting = [statement]
    while len(waiting) > 0:
        part = waiting.pop()
        parts.append(part)
        waiting.extend(statements_within(part))
    return parts


def leaf_truths(world, leaf):
    if leaf[0] == "lamp":
        return [leaf[1] in lit for lit, doors in world]
    return [leaf[1] not in lit for lit, doors in world]


def join_truths(kind, first, second):
    if kind == "and":
        return [one and other for one, other in zip(first, second)]
    return [one or other for one, other in zip(first, second)]


def truths_behind(doors, inner):
    return [inner[door] for door in doors]


def door_truths(world, kind, inner):
    if kind == "every":
        return [False not in truths_behind(doors, inner) for lit, doors in world]
    return [True in truths_behind(doors, inner) for lit, doors in world]


# What is answered of a statement, from the inside out: `answer` is handed each part
# and the answers of the statements that lie straight within it.
def from_inside(statement, answer):
    found = []
    for part in reversed(outside_in(statement)):
        # The answers of what lies within the part are the last ones found.
        inner = [found.pop() for within in statements_within(part)]
        inner.reverse()
        found.append(answer(part, inner))
    return found.pop()


def part_truths(world, part, inner):
    kind = part[0]
    if kind in LEAVES:
        return leaf_truths(world, part)
    if kind in JOINS:
        return join_truths(kind, inner[0], inner[1])
    if kind == "not":
        return [not truth for truth in inner[0]]
    return door_truths(world, kind, inner[0])


# Each part is looked at once for all rooms together: to go from room to room
# through the doors anew for each part would take longer with every `every` and `some`.
def truths(world, statement):
    return from_inside(statement, lambda part, inner: part_truths(world, part, inner))


# The plain form of a part and that of its `not`, made side by side,
# since it is known only farther out which of the two is wanted.
def plain_forms(part, inner):
    kind = part[0]
    if kind in LEAVES:
        return (part, (TURNED[kind], part[1]))
    straight = [forms[0] for forms in inner]
    turned = [forms[1] for forms in inner]
    if kind == "not":
        return (turned[0], straight[0])
    return ((kind,) + tuple(straight), (TURNED[kind],) + tuple(turned))


def plain(statement):
    return from_inside(statement, plain_forms)[0]
