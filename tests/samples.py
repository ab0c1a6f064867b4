"""Worlds and statements for the tests, and the points of the document said over again, room by room."""

LEAVES = [("lamp", 1), ("dark", 1), ("lamp", 2), ("dark", 2)]


def joined(firsts, seconds):
    return [(kind, one, other) for kind in ("and", "or") for one in firsts for other in seconds]


def within_one(statements, kinds):
    return [(kind, one) for kind in kinds for one in statements]


SHALLOW = LEAVES + within_one(LEAVES, ("not", "every", "some")) + joined(LEAVES, LEAVES)
# All sorts within all sorts: alone, in the first place of a join, and in the second.
DEEPER = (
    SHALLOW
    + within_one(SHALLOW, ("not", "every", "some"))
    + joined(SHALLOW, LEAVES[:2])
    + joined(LEAVES[2:], SHALLOW)
)
PLAIN_SHALLOW = LEAVES + within_one(LEAVES, ("every", "some")) + joined(LEAVES, LEAVES)

WORLDS = [
    [([], [])],
    [([1], [])],
    [([], [0])],
    [([2], [0])],
    [([1], [1]), ([2], [])],
    [([1], [1, 0]), ([], [0])],
    [([2, 1], [1, 2]), ([1], []), ([2], [0, 2])],
    [([], [2, 1]), ([1], [1]), ([], [0, 1, 2])],
    [([1], [1, 2, 3]), ([2], [3]), ([], [3, 0]), ([1, 2], [])],
]


def two_room_worlds():
    """Every world of two rooms with the lamps 1 and 2."""
    rooms = [
        (lit, doors)
        for lit in ([], [1], [2], [1, 2])
        for doors in ([], [0], [1], [0, 1])
    ]
    return [[one, other] for one in rooms for other in rooms]


def true_in(world, room, statement):
    kind = statement[0]
    lit, doors = world[room]
    if kind == "lamp":
        return statement[1] in lit
    if kind == "dark":
        return statement[1] not in lit
    if kind == "not":
        return not true_in(world, room, statement[1])
    if kind == "and":
        return true_in(world, room, statement[1]) and true_in(world, room, statement[2])
    if kind == "or":
        return true_in(world, room, statement[1]) or true_in(world, room, statement[2])
    if kind == "every":
        return all(true_in(world, door, statement[1]) for door in doors)
    if kind == "some":
        return any(true_in(world, door, statement[1]) for door in doors)
    raise AssertionError(statement)


def row_true_in(world, room, row):
    return any(true_in(world, room, statement) for statement in row)


def nested(kinds, innermost, depth):
    """Statements of these sorts in turn, `depth` of them in all, each within the one before."""
    statement = innermost
    for k in range(depth - 1):
        kind = kinds[k % len(kinds)]
        if kind in ("and", "or"):
            statement = (kind, statement, ("lamp", 3))
        else:
            statement = (kind, statement)
    return statement


def kinds_in(statement):
    """The sorts of all statements that lie within a statement, itself among them."""
    kinds = set()
    waiting = [statement]
    while waiting:
        part = waiting.pop()
        kinds.add(part[0])
        waiting.extend(part[1:] if part[0] not in ("lamp", "dark") else ())
    return kinds
