"""Speaker and doubter play about a plain statement in a room."""
from roomsay.errors import NoMove
from roomsay.statements import JOINS, LEAVES, truths

MOVERS = {"or": "speaker", "some": "speaker", "and": "doubter", "every": "doubter"}


def moves(world, room, statement):
    kind = statement[0]
    if kind in LEAVES:
        return []
    if kind in JOINS:
        return [(room, within) for within in statement[1:]]
    return [(door, statement[1]) for door in world[room][1]]


def winner_told(truth):
    return "speaker" if truth else "doubter"


def winner(world, room, statement):
    return winner_told(truths(world, statement)[room])


# Behind all doors lies the same statement, so it is looked at once for all of them.
def winners_behind(world, room, statement):
    found = truths(world, statement[1])
    return [winner_told(found[door]) for door in world[room][1]]


def move_winners(world, room, statement):
    if statement[0] in JOINS:
        return [winner(world, room, within) for within in statement[1:]]
    return winners_behind(world, room, statement)


def best_move(world, room, statement):
    if len(moves(world, room, statement)) == 0:
        raise NoMove("there is no move from here")
    mover = MOVERS[statement[0]]
    winners = move_winners(world, room, statement)
    return winners.index(mover) if mover in winners else 0
