"""Worlds and statements for the tests, and the points of the document said over again, in the plainest way."""
import random

LEAVES = [("lamp", 1), ("dark", 1), ("lamp", 2), ("dark", 2)]


def joined(firsts, seconds):
    return [(kind, one, other) for kind in ("and", "or") for one in firsts for other in seconds]


def within_one(statements, kinds):
    return [(kind, one) for kind in kinds for one in statements]


SHALLOW = LEAVES + within_one(LEAVES, ("not", "every", "some")) + joined(LEAVES, LEAVES)
# All sorts within all sorts: alone, in the first place of a join, and in the second.
DEEPER = (
    SHALLOW
    + within_one(SHALLOW, ("not", "every", "some"))
    + joined(SHALLOW, LEAVES[:2])
    + joined(LEAVES[2:], SHALLOW)
)
PLACES_WITHIN = {"lamp": 1, "dark": 1, "and": 2, "or": 2, "every": 1, "some": 1}
PLAIN_SHALLOW = LEAVES + within_one(LEAVES, ("every", "some")) + joined(LEAVES, LEAVES)

WORLDS = [
    [([], [])],
    [([1], [])],
    [([], [0])],
    [([2], [0])],
    [([1], [1]), ([2], [])],
    [([1], [1, 0]), ([], [0])],
    [([2, 1], [1, 2]), ([1], []), ([2], [0, 2])],
    [([], [2, 1]), ([1], [1]), ([], [0, 1, 2])],
    [([1], [1, 2, 3]), ([2], [3]), ([], [3, 0]), ([1, 2], [])],
]

# A world whose rooms 10 and 12 lie so close to one another that what first comes to mind to tell them apart
# has more than a hundred thousand statements. Here are the doors of each room; lamp 1 is lit in three of them.
CLOSE_DOORS = [
    [0, 5, 9, 10, 16, 19, 20, 21, 25, 27, 28, 29, 31, 35, 37, 38],
    [1, 2, 3, 5, 6, 7, 12, 13, 14, 16, 20, 22, 27, 29, 30, 32, 34, 35, 36, 37, 39],
    [1, 5, 7, 8, 10, 11, 12, 13, 14, 15, 16, 17, 19, 20, 21, 23, 26, 29, 33, 34, 36, 38],
    [0, 3, 4, 6, 7, 10, 15, 16, 17, 19, 21, 22, 23, 25, 26, 27, 30, 36, 38],
    [1, 4, 5, 6, 8, 10, 11, 12, 13, 14, 15, 17, 19, 23, 25, 26, 29, 32, 33, 35, 36, 38],
    [0, 4, 9, 11, 12, 13, 15, 16, 18, 19, 22, 24, 25, 26, 27, 30, 32, 35, 37, 39],
    [0, 1, 3, 5, 7, 8, 9, 11, 13, 14, 16, 18, 19, 21, 22, 24, 30, 31, 32, 34, 35, 38, 39],
    [1, 3, 4, 5, 8, 9, 12, 14, 16, 17, 19, 22, 24, 25, 26, 27, 29, 30, 32, 33, 34, 37, 39],
    [0, 4, 11, 12, 13, 15, 16, 18, 19, 22, 24, 25, 26, 27, 28, 30, 35, 36, 37, 38, 39],
    [0, 4, 5, 11, 12, 13, 15, 18, 19, 21, 22, 24, 25, 26, 27, 28, 35, 36, 37, 38],
    [1, 2, 5, 7, 8, 9, 11, 13, 14, 15, 16, 17, 18, 19, 23, 25, 26, 27, 28, 32, 33, 34, 36],
    [0, 2, 3, 5, 14, 15, 18, 19, 22, 24, 25, 27, 29, 33, 35, 39],
    [1, 2, 5, 7, 8, 9, 11, 13, 14, 15, 16, 17, 18, 19, 23, 25, 26, 28, 32, 33, 34, 36],
    [1, 5, 8, 9, 11, 12, 13, 14, 17, 19, 20, 21, 26, 28, 29, 30, 33, 34, 36],
    [1, 8, 15, 17, 18, 19, 22, 23, 25, 31, 32, 35],
    [3, 5, 6, 7, 14, 15, 16, 19, 21, 22, 23, 24, 25, 27, 28, 37, 38, 39],
    [1, 2, 3, 4, 5, 7, 11, 12, 14, 17, 20, 23, 24, 25, 29, 30, 31, 34, 37, 39],
    [4, 5, 9, 11, 12, 13, 14, 16, 18, 19, 20, 21, 22, 28, 30, 32, 37, 39],
    [0, 4, 5, 9, 10, 11, 12, 13, 15, 16, 19, 22, 24, 25, 26, 27, 30, 35, 37, 39],
    [1, 2, 3, 6, 12, 14, 15, 16, 17, 19, 20, 25, 29, 32, 34, 37, 38, 39],
    [1, 2, 11, 12, 14, 17, 19, 20, 23, 25, 26, 27, 28, 29, 33, 34, 36, 38],
    [0, 2, 4, 9, 11, 12, 13, 15, 16, 19, 21, 22, 23, 24, 25, 26, 27, 32, 35, 36, 37, 39],
    [0, 1, 6, 9, 10, 16, 23, 24, 28, 29, 32, 34, 38, 39],
    [3, 4, 5, 6, 7, 8, 9, 12, 14, 17, 18, 19, 21, 36, 38, 39],
    [2, 3, 5, 10, 11, 15, 16, 19, 20, 22, 23, 25, 26, 27, 31, 33, 34, 36, 38, 39],
    [1, 2, 3, 4, 7, 8, 11, 12, 14, 16, 17, 18, 20, 23, 24, 25, 27, 29, 30, 31, 32, 34, 37, 39],
    [1, 2, 4, 5, 7, 8, 11, 13, 14, 15, 17, 19, 23, 26, 27, 28, 29, 30, 33, 34, 35, 36, 39],
    [0, 4, 5, 9, 10, 11, 13, 15, 16, 19, 22, 24, 25, 26, 30, 32, 35, 37, 39],
    [3, 4, 5, 6, 7, 9, 12, 14, 17, 19, 21, 27, 28, 29, 36, 38, 39],
    [0, 4, 5, 11, 12, 13, 15, 16, 19, 22, 24, 25, 26, 28, 35, 36, 37, 38, 39],
    [1, 2, 3, 4, 5, 7, 11, 12, 14, 17, 20, 23, 24, 25, 29, 30, 31, 32, 34, 37, 38, 39],
    [0, 1, 3, 6, 9, 10, 12, 13, 14, 16, 17, 20, 23, 26, 28, 29, 31, 32, 34, 37, 38, 39],
    [1, 2, 3, 4, 7, 11, 12, 14, 17, 18, 20, 23, 24, 25, 27, 29, 30, 31, 32, 34, 37, 39],
    [0, 1, 7, 10, 15, 16, 21, 23, 24, 25, 28, 30, 34, 36, 38, 39],
    [0, 1, 2, 3, 5, 6, 9, 10, 11, 12, 14, 18, 19, 21, 22, 23, 25, 26, 27, 28, 29, 31, 32, 33, 34, 36],
    [1, 2, 5, 6, 11, 13, 14, 15, 16, 17, 19, 20, 25, 28, 33, 35, 36, 38],
    [0, 5, 8, 11, 12, 13, 15, 18, 19, 22, 24, 26, 27, 28, 29, 32, 35, 36, 37, 38],
    [0, 1, 2, 9, 10, 15, 19, 21, 22, 23, 24, 25, 26, 28, 32, 33, 39],
    [3, 4, 5, 6, 7, 8, 12, 14, 17, 19, 21, 23, 27, 29, 36, 38],
    [3, 4, 5, 6, 7, 12, 14, 17, 18, 19, 21, 23, 27, 28, 29, 36, 39],
]
CLOSE_WORLD = [([1] if room in (3, 11, 31) else [], doors) for room, doors in enumerate(CLOSE_DOORS)]


def two_room_worlds():
    """Every world of two rooms with the lamps 1 and 2."""
    rooms = [
        (lit, doors)
        for lit in ([], [1], [2], [1, 2])
        for doors in ([], [0], [1], [0, 1])
    ]
    return [[one, other] for one in rooms for other in rooms]


def corridor(length, lit):
    """Rooms in a row, each with one door to the next; these lamps are lit in the last room alone."""
    return [([], [room + 1]) for room in range(length - 1)] + [(lit, [])]


def drawn_world(draw, rooms, lamps):
    length = draw.randint(1, rooms)
    often = draw.choice((0.1, 0.3, 0.6, 0.9))
    world = []
    for room in range(length):
        lit = [lamp for lamp in range(1, lamps + 1) if draw.random() < 0.3]
        doors = [door for door in range(length) if draw.random() < often]
        draw.shuffle(doors)
        world.append((lit, doors))
    return world


def drawn_worlds(seed, count, rooms, lamps):
    """Worlds of at most so many rooms; the same seed draws the same ones."""
    draw = random.Random(seed)
    return [drawn_world(draw, rooms, lamps) for number in range(count)]


def drawn_plain(draw, joints, lamps):
    """A plain statement with so many `and`, `or`, `every` and `some` in it."""
    if joints == 0:
        return (draw.choice(("lamp", "dark")), draw.randint(1, lamps))
    kind = draw.choice(("and", "or", "and", "or", "every", "some"))
    if kind in ("every", "some"):
        return (kind, drawn_plain(draw, joints - 1, lamps))
    first = draw.randint(0, joints - 1)
    return (kind, drawn_plain(draw, first, lamps), drawn_plain(draw, joints - 1 - first, lamps))


def drawn_rows(seed, count, lamps):
    """Rows of at most four plain statements; the same seed draws the same ones."""
    draw = random.Random(seed)
    return [
        [drawn_plain(draw, draw.randint(0, 7), lamps) for place in range(draw.randint(0, 4))]
        for number in range(count)
    ]


def true_in(world, room, statement):
    kind = statement[0]
    lit, doors = world[room]
    if kind == "lamp":
        return statement[1] in lit
    if kind == "dark":
        return statement[1] not in lit
    if kind == "not":
        return not true_in(world, room, statement[1])
    if kind == "and":
        return true_in(world, room, statement[1]) and true_in(world, room, statement[2])
    if kind == "or":
        return true_in(world, room, statement[1]) or true_in(world, room, statement[2])
    if kind == "every":
        return all(true_in(world, door, statement[1]) for door in doors)
    if kind == "some":
        return any(true_in(world, door, statement[1]) for door in doors)
    raise AssertionError(statement)


def row_true_in(world, room, row):
    return any(true_in(world, room, statement) for statement in row)


def nested(kinds, innermost, depth):
    """Statements of these sorts in turn, `depth` of them in all, each within the one before."""
    statement = innermost
    for k in range(depth - 1):
        kind = kinds[k % len(kinds)]
        if kind in ("and", "or"):
            statement = (kind, statement, ("lamp", 3))
        else:
            statement = (kind, statement)
    return statement


def parts_in(statement):
    """All statements that lie within a statement, itself among them."""
    parts = []
    waiting = [statement]
    while waiting:
        part = waiting.pop()
        parts.append(part)
        waiting.extend(part[1:] if part[0] not in ("lamp", "dark") else ())
    return parts


def kinds_in(statement):
    return {part[0] for part in parts_in(statement)}


def is_plain(statement):
    """Whether it is a plain statement as point 3 tells."""
    for part in parts_in(statement):
        within = part[1:]
        if not isinstance(part, tuple) or part[0] not in PLACES_WITHIN or len(within) != PLACES_WITHIN[part[0]]:
            return False
        if part[0] in ("lamp", "dark") and not (isinstance(within[0], int) and within[0] >= 1):
            return False
    return True


def is_world(world):
    """Whether it is a world as point 2 tells, but for its length, which is only bounded for what is handed in."""
    if not isinstance(world, list) or len(world) < 1:
        return False
    for room in world:
        if not isinstance(room, tuple) or len(room) != 2:
            return False
        lit, doors = room
        if not isinstance(lit, list) or not isinstance(doors, list):
            return False
        if any(not isinstance(number, int) for number in lit + doors):
            return False
        if len(set(lit)) != len(lit) or any(lamp < 1 for lamp in lit):
            return False
        if len(set(doors)) != len(doors) or any(door not in range(len(world)) for door in doors):
            return False
    return True


def is_sure(row):
    """Whether a row is sure, found step by step as point 10 tells."""
    if any(("dark", one[1]) in row for one in row if one[0] == "lamp"):
        return True
    for k, one in enumerate(row):
        if one[0] == "or":
            return is_sure(row[:k] + [one[1], one[2]] + row[k + 1:])
        if one[0] == "and":
            return is_sure(row[:k] + [one[1]] + row[k + 1:]) and is_sure(row[:k] + [one[2]] + row[k + 1:])
    behind = [one[1] for one in row if one[0] == "some"]
    return any(is_sure([one[1]] + behind) for one in row if one[0] == "every")


def pair_holds(world, pair, pairs):
    """Whether one of the pairs keeps what point 14 asks of it."""
    one, other = pair
    firsts, seconds = world[one][1], world[other][1]
    return (
        set(world[one][0]) == set(world[other][0])
        and all(any((first, second) in pairs for second in seconds) for first in firsts)
        and all(any((first, second) in pairs for first in firsts) for second in seconds)
    )


def alike_rooms(world):
    """All pairs of rooms that are alike: those left when one after the other that can't be alike is struck out."""
    pairs = {(one, other) for one in range(len(world)) for other in range(len(world))}
    while True:
        kept = {pair for pair in pairs if pair_holds(world, pair, pairs)}
        if kept == pairs:
            return pairs
        pairs = kept
