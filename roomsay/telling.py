"""Two rooms of a world are told apart by a statement, or shown to be alike."""
from roomsay.statements import door_truths, join_truths, leaf_truths

MOST_STATEMENTS = 100000


# A plain statement and what its `not` becomes, the truths of the first one in all rooms, and how many
# statements there are in either of the two.
class Saying:
    def __init__(self, size, truths, straight, turned):
        self.size = size
        self.truths = truths
        self.straight = straight
        self.turned = turned


def said_of_lamp(world, lamp):
    straight = ("lamp", lamp)
    return Saying(1, leaf_truths(world, straight), straight, ("dark", lamp))


def said_turned(saying):
    return Saying(saying.size, [not truth for truth in saying.truths], saying.turned, saying.straight)


def said_both(one, other):
    return Saying(
        one.size + other.size + 1,
        join_truths("and", one.truths, other.truths),
        ("and", one.straight, other.straight),
        ("or", one.turned, other.turned),
    )


def said_of_some(world, saying):
    return Saying(
        saying.size + 1,
        door_truths(world, "some", saying.truths),
        ("some", saying.straight),
        ("every", saying.turned),
    )


# Joined two by two, so that not many statements come to lie one within the other.
def said_together(sayings):
    waiting = sayings
    while len(waiting) > 1:
        joined = [said_both(one, other) for one, other in zip(waiting[::2], waiting[1::2])]
        waiting = joined + waiting[2 * len(joined):]
    return waiting[0]


def lamps_lit(world):
    lamps = {}
    for lit, doors in world:
        for lamp in lit:
            lamps[lamp] = True
    return list(lamps)


def keep_smaller(found, saying):
    key = tuple(saying.truths)
    if key not in found or saying.size < found[key].size:
        found[key] = saying


class Tellers:
    # `best` has, for pairs of rooms, the smallest saying known that is true in the first and not in the second.
    def __init__(self, world):
        self.world = world
        self.best = {}
        self.changed = False
        lamps = lamps_lit(world)
        for lamp in lamps:
            self.learn(said_of_lamp(world, lamp))
        # No room has this lamp lit, so that it is dark is true in all of them.
        self.always = said_turned(said_of_lamp(world, max(lamps, default=0) + 1))

    def learn(self, saying):
        turned = said_turned(saying)
        others = [room for room, truth in enumerate(saying.truths) if not truth]
        for one in [room for room, truth in enumerate(saying.truths) if truth]:
            for other in others:
                known = self.best.get((one, other))
                if known is None or saying.size < known.size:
                    self.best[(one, other)] = saying
                    self.best[(other, one)] = turned
                    self.changed = True

    # The room that is the hardest to tell apart comes first: what tells it apart
    # is needed anyway, and often tells others apart as well.
    def sayings_against(self, room, others):
        chosen = []
        left = others
        while len(left) > 0:
            hardest = max([self.best[(room, other)] for other in left], key=lambda saying: saying.size)
            chosen.append(hardest)
            left = [other for other in left if hardest.truths[other]]
        return chosen

    # What is true in a room and in none of the others; None where it isn't told apart from each of them yet.
    def said_against_all(self, room, others):
        if len(others) == 0:
            return self.always
        for other in others:
            if (room, other) not in self.best:
                return None
        return said_together(self.sayings_against(room, others))

    # The rooms behind the doors of those that aren't told apart from this one yet, or of all, if `anew`.
    def rooms_to_try(self, room, anew):
        found = {}
        for one in range(len(self.world)):
            if anew or (one, room) not in self.best:
                for door in self.world[one][1]:
                    found[door] = True
        return list(found)

    # Rooms are told from another by what is true in a room behind one of their doors and in none behind the other's.
    # Of what is true in the same rooms, the smallest is enough.
    def sayings_through_doors(self, anew):
        found = {}
        for other in range(len(self.world)):
            for room in self.rooms_to_try(other, anew):
                inner = self.said_against_all(room, self.world[other][1])
                if inner is not None:
                    keep_smaller(found, inner)
        return [said_of_some(self.world, inner) for inner in found.values()]

    # False where nothing new was learned, so that going on would bring nothing either.
    def learn_through_doors(self, anew):
        self.changed = False
        for saying in self.sayings_through_doors(anew):
            self.learn(saying)
        return self.changed


# Of rooms that aren't told apart even by what is behind their doors, these pairs are all there are.
def alike_pairs(world, best):
    pairs = []
    for one in range(len(world)):
        pairs.extend([(one, other) for other in range(len(world)) if (one, other) not in best])
    return pairs


def told_apart(world, one, other):
    tellers = Tellers(world)
    pair = (one, other)
    learning = True
    while learning and pair not in tellers.best:
        learning = tellers.learn_through_doors(False)
    if pair not in tellers.best:
        return ("alike", alike_pairs(world, tellers.best))
    # By what has been learned since, the same is often said with fewer statements.
    while learning and tellers.best[pair].size > MOST_STATEMENTS:
        learning = tellers.learn_through_doors(True)
    return ("apart", tellers.best[pair].straight)
