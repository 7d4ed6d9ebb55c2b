"""Questions: the constructors that are asked for, one behind another, until a clause is chosen.

What is answered is a dict: at the way of each position asked for, the
constructor's number. A way is the tuple of its fields' numbers.
"""

from matchclauses.patterns import ANYTHING, makes_value, valued_kinds


# A position of a clause, the kind that it is of, and the number that stands there.
class Spot:
    def __init__(self, way, kind, number):
        self.way = way
        self.kind = kind
        self.number = number


# What stands there isn't read yet.
def spots_below(spot, fields):
    return [Spot(spot.way + (place,), kind, ANYTHING) for place, kind in enumerate(fields)]


# Of the constructors alone, in the order of the pattern's numbers: so each comes
# behind those that it is in, and whenever it is asked for these were answered.
def spots_of(kinds, kind, pattern):
    found = []
    waiting = [Spot((), kind, ANYTHING)]
    for number in pattern:
        spot = waiting.pop()
        if number != ANYTHING:
            found.append(Spot(spot.way, spot.kind, number))
            waiting.extend(list(reversed(spots_below(spot, kinds[spot.kind][number]))))
    return found


def is_ruled_out(spots, answered):
    return any([answered.get(spot.way, spot.number) != spot.number for spot in spots])


def first_left(clauses, answered):
    for number, spots in enumerate(clauses):
        if not is_ruled_out(spots, answered):
            return number
    return None


def first_unasked(spots, answered):
    for spot in spots:
        if spot.way not in answered:
            return spot
    return None


def asked_next(clauses, answered):
    number = first_left(clauses, answered)
    return None if number is None else first_unasked(clauses[number], answered)


# The clauses are told by their spots. None if one of the constructors is no
# answer to its question, or there is no question for it.
def answered_by(kinds, clauses, constructors):
    valued = valued_kinds(kinds)
    answered = {}
    for number in constructors:
        spot = asked_next(clauses, answered)
        if spot is None or number >= len(kinds[spot.kind]):
            return None
        if not makes_value(kinds[spot.kind][number], valued):
            return None
        answered[spot.way] = number
    return answered
