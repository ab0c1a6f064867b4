"""Plain statements told by numbers, so that rows of them are quickly compared, kept and looked up."""
from roomsay.statements import LEAVES, TURNED, from_inside


# Each different statement of a row, and each within one, has one number; what lies within it has a smaller one.
class Book:
    def __init__(self, row):
        # By number: the statement, and its part, which has numbers in the place of the statements within it.
        self.statements = []
        self.parts = []
        self.numbers = {}
        self.row = [self.number_of(statement) for statement in row]
        # By number: the number of what a `not` of the statement becomes, None where the book doesn't have it.
        self.turned = []
        for part in self.parts:
            self.turned.append(self.turned_number(part))

    def number_of(self, statement):
        return from_inside(statement, lambda part, inner: self.enter(part, inner))

    def enter(self, statement, inner):
        part = statement if statement[0] in LEAVES else (statement[0],) + tuple(inner)
        if part not in self.numbers:
            self.numbers[part] = len(self.parts)
            self.parts.append(part)
            self.statements.append(statement)
        return self.numbers[part]

    def turned_number(self, part):
        kind = TURNED[part[0]]
        if part[0] in LEAVES:
            return self.numbers.get((kind, part[1]))
        return self.numbers.get((kind,) + tuple([self.turned[number] for number in part[1:]]))

    def kind_of(self, number):
        return self.parts[number][0]

    def within(self, number):
        return list(self.parts[number][1:])

    def of_kind(self, kind, numbers):
        return [number for number in numbers if self.kind_of(number) == kind]
