"""The calls on one object, told in one list of numbers, and what they answer."""

from matchclauses.choosing import answered_by, first_left, first_unasked, spots_of
from matchclauses.patterns import ANYTHING, fits, is_pattern, is_value, valued_kinds
from matchclauses.showing import shown_pattern

FITS_NONE = -1
NOT_THERE = -2
NO_ROOM = -3
NOT_NOW = -4

ASKED_NEXT = 1
CHOSEN = 2
NOTHING_FITS = 3

MOST_KINDS = 16
MOST_CONSTRUCTORS = 16
MOST_FIELDS = 4
MOST_CLAUSES = 32
MOST_NUMBERS = 64
MOST_VALUE_NUMBERS = 1024


class UnknownCall(ValueError):
    pass


def counted(numbers):
    return [len(numbers)] + list(numbers)


def pattern_told(found):
    return [0] if found is None else counted(found)


class Desk:
    def __init__(self):
        self.kinds = []
        # The kind that the match is on; None while there is no match.
        self.matched = None
        self.clauses = []

    def add_kind(self):
        if self.matched is not None:
            return [NOT_NOW]
        if len(self.kinds) >= MOST_KINDS:
            return [NO_ROOM]
        self.kinds.append([])
        return [len(self.kinds) - 1]

    def add_constructor(self, kind, fields):
        if self.matched is not None:
            return [NOT_NOW]
        known = all([field < len(self.kinds) for field in (kind,) + fields])
        if not known or len(fields) > MOST_FIELDS:
            return [NOT_THERE]
        constructors = self.kinds[kind]
        if len(constructors) >= MOST_CONSTRUCTORS:
            return [NO_ROOM]
        constructors.append(fields)
        return [len(constructors) - 1]

    def has_value(self, kind):
        if kind >= len(self.kinds):
            return [NOT_THERE]
        return [1 if valued_kinds(self.kinds)[kind] else 0]

    def begin(self, kind):
        if self.matched is not None:
            return [NOT_NOW]
        if kind >= len(self.kinds):
            return [NOT_THERE]
        self.matched = kind
        self.clauses = []
        return [0]

    def add_clause(self, pattern):
        if self.matched is None:
            return [NOT_NOW]
        numbers = sum([len(clause) for clause in self.clauses]) + len(pattern)
        if len(self.clauses) >= MOST_CLAUSES or numbers > MOST_NUMBERS:
            return [NO_ROOM]
        if not is_pattern(self.kinds, self.matched, pattern):
            return [NOT_THERE]
        self.clauses.append(pattern)
        return [len(self.clauses) - 1]

    def missing(self):
        if self.matched is None:
            return [NOT_NOW]
        return pattern_told(shown_pattern(self.kinds, self.matched, self.clauses, (ANYTHING,)))

    def what_comes_to(self, number):
        return shown_pattern(self.kinds, self.matched, self.clauses[:number], self.clauses[number])

    def reach(self, number):
        if self.matched is None:
            return [NOT_NOW]
        if number >= len(self.clauses):
            return [NOT_THERE]
        return pattern_told(self.what_comes_to(number))

    def which(self, value):
        if self.matched is None:
            return [NOT_NOW]
        if len(value) > MOST_VALUE_NUMBERS:
            return [NO_ROOM]
        if not is_value(self.kinds, self.matched, value):
            return [NOT_THERE]
        for number, clause in enumerate(self.clauses):
            if fits(self.kinds, self.matched, value, clause):
                return [number]
        return [FITS_NONE]

    def choose(self, constructors):
        if self.matched is None:
            return [NOT_NOW]
        clauses = [spots_of(self.kinds, self.matched, clause) for clause in self.clauses]
        answered = answered_by(self.kinds, clauses, constructors)
        if answered is None:
            return [NOT_THERE]
        number = first_left(clauses, answered)
        if number is None:
            return [NOTHING_FITS]
        spot = first_unasked(clauses[number], answered)
        return [CHOSEN, number] if spot is None else [ASKED_NEXT] + list(spot.way)

    def useless(self):
        if self.matched is None:
            return [NOT_NOW]
        return counted([number for number in range(len(self.clauses)) if self.what_comes_to(number) is None])

    def drop(self, number):
        if self.matched is None:
            return [NOT_NOW]
        if number >= len(self.clauses):
            return [NOT_THERE]
        self.clauses.pop(number)
        return [len(self.clauses)]

    def end(self):
        if self.matched is None:
            return [NOT_NOW]
        self.matched = None
        return [0]


class Reader:
    def __init__(self, numbers):
        self.numbers = numbers
        self.place = 0

    def at_end(self):
        return self.place >= len(self.numbers)

    def take_number(self):
        number = self.numbers[self.place]
        self.place += 1
        return number

    def take_row(self):
        start = self.place + 1
        self.place = start + self.numbers[self.place]
        return tuple(self.numbers[start:self.place])


def answer_one(desk, reader):
    call = reader.take_number()
    if call == 1:
        return desk.add_kind()
    if call == 2:
        kind = reader.take_number()
        return desk.add_constructor(kind, reader.take_row())
    if call == 3:
        return desk.has_value(reader.take_number())
    if call == 4:
        return desk.begin(reader.take_number())
    if call == 5:
        return desk.add_clause(reader.take_row())
    if call == 6:
        return desk.missing()
    if call == 7:
        return desk.reach(reader.take_number())
    if call == 8:
        return desk.which(reader.take_row())
    if call == 9:
        return desk.choose(reader.take_row())
    if call == 10:
        return desk.useless()
    if call == 11:
        return desk.drop(reader.take_number())
    if call == 12:
        return desk.end()
    raise UnknownCall(f"there is no call {call}")


def answers(calls):
    desk = Desk()
    reader = Reader(calls)
    told = []
    while not reader.at_end():
        answer = answer_one(desk, reader)
        told.append(len(answer))
        told.extend(answer)
    return told
