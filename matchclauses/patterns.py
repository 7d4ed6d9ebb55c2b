"""Kinds of data, their constructors, and the patterns told of them in numbers.

The kinds are a list. A kind is the list of its constructors, and a constructor
the tuple of its fields' kinds, by their numbers.
"""

ANYTHING = 255


def makes_value(fields, valued):
    return all([valued[kind] for kind in fields])


def valued_kinds(kinds):
    # Values are finite, so each one is made of values that are there before it:
    # a kind that waits for itself is never reached, and stays without.
    valued = [False for constructors in kinds]
    growing = True
    while growing:
        growing = False
        for kind, constructors in enumerate(kinds):
            if not valued[kind] and any([makes_value(fields, valued) for fields in constructors]):
                valued[kind] = True
                growing = True
    return valued


def is_pattern(kinds, kind, numbers):
    # The kinds that still wait for a pattern; the last of them is the one whose turn it is.
    waiting = [kind]
    for number in numbers:
        if not waiting:
            return False
        constructors = kinds[waiting.pop()]
        if number < len(constructors):
            waiting.extend(list(reversed(constructors[number])))
        elif number != ANYTHING:
            return False
    return not waiting


def is_value(kinds, kind, numbers):
    return ANYTHING not in numbers and is_pattern(kinds, kind, numbers)


# Where the value that begins at this place of the numbers has ended.
def place_behind(kinds, kind, numbers, place):
    waiting = [kind]
    while waiting:
        fields = kinds[waiting.pop()][numbers[place]]
        waiting.extend(list(reversed(fields)))
        place += 1
    return place


def fits(kinds, kind, value, pattern):
    waiting = [kind]
    place = 0
    for number in pattern:
        turn = waiting.pop()
        if number == ANYTHING:
            place = place_behind(kinds, turn, value, place)
        elif value[place] == number:
            waiting.extend(list(reversed(kinds[turn][number])))
            place += 1
        else:
            return False
    return True
