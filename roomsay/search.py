"""Weighing: lines that show a row, or a world that speaks against it."""
from roomsay.book import Book
from roomsay.lines import rows_above_by_parts
from roomsay.statements import plain

# Of a statement and what its `not` becomes, the one of such a sort is taken apart first.
TAKEN_FIRST = ("lamp", "or", "every")


# How a row is shown: the sort of its reason, the number of the statement that the reason speaks of,
# how the rows above are shown, and the numbers that are used. Each row that has those is shown like this.
class Showing:
    def __init__(self, kind, number, above, used):
        self.kind = kind
        self.number = number
        self.above = above
        self.used = used


# A dict of these numbers, asked by `in`.
def marked(numbers):
    return dict([(number, True) for number in numbers])


def left_of(numbers, left_out):
    return [number for number in numbers if number not in left_out]


# Rows are weighed without regard to the order in them, and to how often a statement stands there.
def row_of(numbers):
    return tuple(sorted(set(numbers)))


# A row with a statement and what its `not` becomes is sure, and shown by taking just these two apart.
def clash_showing(book, clashes, first, second):
    used = marked([first, second])
    kind = book.kind_of(first)
    if kind == "lamp":
        return Showing("pair", first, [], used)
    inner = [clashes[number] for number in book.within(first)]
    if kind == "every":
        return Showing("every", first, inner, used)
    both = Showing("and", second, inner, marked([second] + book.within(first)))
    return Showing("or", first, [both], used)


# By number, for each statement that the book has together with what its `not` becomes.
def clash_showings(book):
    clashes = {}
    for number, turned in enumerate(book.turned):
        if turned is not None and turned < number:
            if book.kind_of(number) in TAKEN_FIRST:
                showing = clash_showing(book, clashes, number, turned)
            else:
                showing = clash_showing(book, clashes, turned, number)
            clashes[number] = showing
            clashes[turned] = showing
    return clashes


# A row with its `or`s taken apart: `present` has what is left, `seen` also the `or`s, `steps` each `or`
# with what it brought. Once a statement, `clashing`, stands beside what its `not` becomes,
# nothing more is taken apart: the row is sure by then.
class Opening:
    def __init__(self, book, row):
        self.book = book
        self.present = {}
        self.seen = {}
        self.steps = []
        self.clashing = None
        self.take_apart(self.admit(row))
        self.leave_out_needless()

    def admit(self, numbers):
        added = [number for number in numbers if number not in self.seen]
        for number in added:
            self.seen[number] = True
            self.present[number] = True
            if self.book.turned[number] in self.present:
                self.clashing = number
        return added

    def take_apart(self, numbers):
        waiting = self.book.of_kind("or", numbers)
        while len(waiting) > 0 and self.clashing is None:
            number = waiting.pop()
            self.present.pop(number)
            added = self.admit(row_of(self.book.within(number)))
            self.steps.append((number, added))
            waiting.extend(self.book.of_kind("or", added))

    def leave_out_needless(self):
        needless = [number for number in self.present_of_kind("and") if self.is_needless(number)]
        self.present = marked(left_of(self.present, marked(needless)))

    # Where one of its two statements isn't true, an `and` isn't either: beside that one it says nothing more.
    def is_needless(self, number):
        return any([within in self.seen for within in self.book.within(number)])

    def present_of_kind(self, kind):
        return self.book.of_kind(kind, list(self.present))

    def is_half_sure(self, number):
        return any([self.book.turned[within] in self.present for within in self.book.within(number)])

    # First an `and` by which a row above is sure at once, so that there is less to weigh; None where there is no `and`.
    def next_and(self):
        found = self.present_of_kind("and")
        for number in found:
            if self.is_half_sure(number):
                return number
        return found[0] if len(found) > 0 else None

    def rows_by_and(self, number):
        others = left_of(self.present, [number])
        return [row_of(others + [within]) for within in self.book.within(number)]

    def row_by_every(self, number):
        return row_of([self.book.within(other)[0] for other in [number] + self.present_of_kind("some")])

    def showing_by_every(self, number, showing):
        inner = self.book.within(number)
        wanted = marked(left_of(showing.used, inner))
        somes = [other for other in self.present_of_kind("some") if self.book.within(other)[0] in wanted]
        return Showing("every", number, [showing], marked([number] + somes))

    # How the row is shown as it was before its `or`s were taken apart; those that brought nothing used stay whole.
    def closed(self, showing):
        for number, added in reversed(self.steps):
            if any([brought in showing.used for brought in added]):
                used = marked(left_of(showing.used, added) + [number])
                showing = Showing("or", number, [showing], used)
        return showing


# A row that is being weighed by the rows above it: by its `and`, else by each `every`,
# with the answers found for these rows so far.
class Task:
    def __init__(self, book, row):
        self.row = row
        self.opening = Opening(book, row)
        self.chosen_and = self.opening.next_and()
        self.everys = self.opening.present_of_kind("every")
        if self.chosen_and is None:
            self.rows = [self.opening.row_by_every(number) for number in self.everys]
        else:
            self.rows = self.opening.rows_by_and(self.chosen_and)
        self.found = []


# Answers are tuples ("sure", showing) and ("against", room), the room told by its place among the rooms made.
class Weighing:
    def __init__(self, book):
        self.book = book
        self.clashes = clash_showings(book)
        self.answers = {}
        self.rooms = []
        self.room_places = {}

    # A list of tasks stands in the place of a recursion, so that there may be any number of rows one above the other.
    def weigh(self, row):
        waiting = [Task(self.book, row)]
        while len(waiting) > 0:
            task = waiting[-1]
            answer = self.answer_to(task)
            if answer is not None:
                self.answers[task.row] = answer
                waiting.pop()
            elif task.rows[len(task.found)] in self.answers:
                task.found.append(self.answers[task.rows[len(task.found)]])
            else:
                waiting.append(Task(self.book, task.rows[len(task.found)]))
        return self.answers[row]

    # None as long as more rows above have to be weighed.
    def answer_to(self, task):
        answer = self.answer_when_opened(task)
        if answer is not None and answer[0] == "sure":
            return ("sure", task.opening.closed(answer[1]))
        return answer

    def answer_when_opened(self, task):
        if task.opening.clashing is not None:
            return ("sure", self.clashes[task.opening.clashing])
        if task.chosen_and is not None:
            return self.answer_by_and(task)
        return self.answer_by_every(task)

    def answer_by_and(self, task):
        if len(task.found) == 0:
            return None
        last = task.found[-1]
        within = self.book.within(task.chosen_and)
        # What is shown without using the statement in the `and`'s stead is shown without taking the `and` apart.
        if last[0] == "against" or within[len(task.found) - 1] not in last[1].used:
            return last
        if len(task.found) < len(within):
            return None
        above = [answer[1] for answer in task.found]
        used = [task.chosen_and]
        for number, showing in zip(within, above):
            used.extend(left_of(showing.used, [number]))
        return ("sure", Showing("and", task.chosen_and, above, marked(used)))

    def answer_by_every(self, task):
        if len(task.found) > 0 and task.found[-1][0] == "sure":
            number = task.everys[len(task.found) - 1]
            return ("sure", task.opening.showing_by_every(number, task.found[-1][1]))
        if len(task.found) < len(task.rows):
            return None
        return ("against", self.room_against(task))

    def room_against(self, task):
        lit = [self.book.parts[number][1] for number in task.opening.present_of_kind("dark")]
        doors = [answer[1] for answer in task.found]
        room = (tuple(sorted(lit)), tuple(sorted(set(doors))))
        if room not in self.room_places:
            self.room_places[room] = len(self.rooms)
            self.rooms.append(room)
        return self.room_places[room]


# Each row above a row of numbers that is shown like this, with how it is shown itself.
def steps_above(book, row, showing):
    if showing.kind == "pair":
        return []
    parts = [book.parts[number] for number in row]
    rows = rows_above_by_parts(list(row), parts, row.index(showing.number))
    return [(tuple(above), how) for above, how in zip(rows, showing.above)]


def reason_told(places, row, showing, above):
    if showing.kind == "pair":
        return ("pair",)
    return (showing.kind, row.index(showing.number)) + tuple([places[step[0]] for step in above])


def lines_told(book, showing):
    lines = []
    places = {}
    waiting = [(tuple(book.row), showing)]
    while len(waiting) > 0:
        row = waiting[-1][0]
        how = waiting[-1][1]
        above = steps_above(book, row, how)
        missing = [step for step in above if step[0] not in places]
        if len(missing) > 0:
            waiting.extend(missing)
        else:
            waiting.pop()
            if row not in places:
                places[row] = len(lines)
                lines.append(([book.statements[number] for number in row], reason_told(places, row, how, above)))
    return lines


# The rooms that can be reached from the first one, which comes to stand at place nought.
def world_told(rooms, first):
    reached = [first]
    places = {first: 0}
    world = []
    while len(world) < len(reached):
        room = rooms[reached[len(world)]]
        for door in room[1]:
            if door not in places:
                places[door] = len(reached)
                reached.append(door)
        world.append((list(room[0]), [places[door] for door in room[1]]))
    return world


def weighed_row(row):
    book = Book(row)
    weighing = Weighing(book)
    answer = weighing.weigh(row_of(book.row))
    if answer[0] == "sure":
        return ("sure", lines_told(book, answer[1]))
    return ("against", world_told(weighing.rooms, answer[1]), 0)


def weighed(statement):
    return weighed_row([plain(statement)])
