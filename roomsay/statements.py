"""Statements about the rooms of a world: where they are true, and their plain form."""

LEAVES = ("lamp", "dark")
JOINS = ("and", "or")
TURNED = {"lamp": "dark", "dark": "lamp", "and": "or", "or": "and", "every": "some", "some": "every"}


def statements_within(statement):
    if statement[0] in LEAVES:
        return []
    return list(statement[1:])


# A list of what is still to be looked at stands in the place of a recursion,
# so that statements may lie within one another as deep as they like.
def outside_in(statement):
    parts = []
    waiting = [statement]
    while len(waiting) > 0:
        part = waiting.pop()
        parts.append(part)
        waiting.extend(statements_within(part))
    return parts


def leaf_truths(world, leaf):
    if leaf[0] == "lamp":
        return [leaf[1] in lit for lit, doors in world]
    return [leaf[1] not in lit for lit, doors in world]


def join_truths(kind, first, second):
    if kind == "and":
        return [one and other for one, other in zip(first, second)]
    return [one or other for one, other in zip(first, second)]


def truths_behind(doors, inner):
    return [inner[door] for door in doors]


def door_truths(world, kind, inner):
    if kind == "every":
        return [False not in truths_behind(doors, inner) for lit, doors in world]
    return [True in truths_behind(doors, inner) for lit, doors in world]


# Each part is looked at once for all rooms together: to go from room to room
# through the doors anew for each part would take longer with every `every` and `some`.
def truths(world, statement):
    found = []
    # From the inside out, so the truths of what lies within a part are the last ones found.
    for part in reversed(outside_in(statement)):
        kind = part[0]
        if kind in LEAVES:
            found.append(leaf_truths(world, part))
        elif kind in JOINS:
            second = found.pop()
            first = found.pop()
            found.append(join_truths(kind, first, second))
        elif kind == "not":
            inner = found.pop()
            found.append([not truth for truth in inner])
        else:
            inner = found.pop()
            found.append(door_truths(world, kind, inner))
    return found.pop()


# The parts of the plain form, each as the sort that it becomes and the part that it comes from.
# A `not` leaves no part of its own: it only turns what lies within it.
def plain_parts(statement):
    parts = []
    waiting = [(statement, False)]
    while len(waiting) > 0:
        taken = waiting.pop()
        part = taken[0]
        turned = taken[1]
        if part[0] == "not":
            waiting.append((part[1], not turned))
        else:
            kind = TURNED[part[0]] if turned else part[0]
            parts.append((kind, part))
            waiting.extend([(within, turned) for within in statements_within(part)])
    return parts


def plain(statement):
    built = []
    # From the inside out, so what lies within a part is what was built last.
    for kind, part in reversed(plain_parts(statement)):
        if kind in LEAVES:
            built.append((kind, part[1]))
        elif kind in JOINS:
            second = built.pop()
            first = built.pop()
            built.append((kind, first, second))
        else:
            inner = built.pop()
            built.append((kind, inner))
    return built.pop()
