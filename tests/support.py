"""What the tests share: the calls as they are told, and the document's words read straight.

`shown_row` and the rest below the calls follow the document sentence by
sentence, on nested patterns and by recursion, with nothing saved or skipped.
"""

import sys

from matchclauses.desk import answers

ANYTHING = 255
FURTHEST = 4294967295


# The calls.

def kind():
    return [1]


def con(t, *fields):
    return [2, t, len(fields), *fields]


def has_value(t):
    return [3, t]


def begin(t):
    return [4, t]


def clause(*pattern):
    return [5, len(pattern), *pattern]


def missing():
    return [6]


def reach(i):
    return [7, i]


def which(*value):
    return [8, len(value), *value]


def choose(*answered):
    return [9, len(answered), *answered]


def useless():
    return [10]


def drop(i):
    return [11, i]


def end():
    return [12]


def joined(calls):
    return [number for call in calls for number in call]


def split_answers(told):
    found = []
    place = 0
    while place < len(told):
        start = place + 1
        place = start + told[place]
        if told[start - 1] < 1 or place > len(told):
            raise AssertionError(f"no row of answers: {told}")
        found.append(told[start:place])
    return found


def ask(*calls):
    found = split_answers(answers(joined(calls)))
    if len(found) != len(calls):
        raise AssertionError(f"{len(calls)} calls, {len(found)} answers")
    return found


def last(*calls):
    return ask(*calls)[-1]


def declared(kinds):
    """The calls that make these kinds, each a list of constructors, each its fields."""
    calls = [kind() for constructors in kinds]
    for t, constructors in enumerate(kinds):
        calls.extend(con(t, *fields) for fields in constructors)
    return calls


def matching(kinds, t, clauses):
    """The calls that make these kinds, and a match on t with these clauses."""
    return declared(kinds) + [begin(t)] + [clause(*pattern) for pattern in clauses]


def told_of(kinds, t, clauses, *calls):
    """What these calls answer of a match on t."""
    before = matching(kinds, t, clauses)
    told = ask(*before, *calls)
    for answer in told[:len(before)]:
        if answer[0] < 0:
            raise AssertionError(f"refused: {before} {told}")
    return told[len(before):]


def uncounted(answer):
    """The numbers behind how many they are, or None if there are none."""
    if len(answer) != 1 + answer[0]:
        raise AssertionError(f"miscounted: {answer}")
    return answer[1:] or None


def missing_of(kinds, t, clauses):
    """The numbers of what's missing, or None."""
    return uncounted(told_of(kinds, t, clauses, missing())[0])


def reached_of(kinds, t, clauses):
    """For each clause the numbers of what comes to it, or None."""
    return [uncounted(answer) for answer in told_of(kinds, t, clauses, *[reach(i) for i in range(len(clauses))])]


def useless_of(kinds, t, clauses):
    return uncounted(told_of(kinds, t, clauses, useless())[0]) or []


def nested_calls():
    """How many calls are within one another where this is asked."""
    depth = 0
    frame = sys._getframe()
    while frame is not None:
        depth += 1
        frame = frame.f_back
    return depth


# The document, read straight. A nested pattern is 255, or (constructor, [fields' patterns]).

def nested(kinds, t, numbers):
    numbers = list(numbers)

    def read(t):
        number = numbers.pop(0)
        if number == ANYTHING:
            return ANYTHING
        return (number, [read(field) for field in kinds[t][number]])

    pattern = read(t)
    if numbers:
        raise AssertionError(f"numbers left: {numbers}")
    return pattern


def flat(pattern):
    if pattern == ANYTHING:
        return [ANYTHING]
    return [pattern[0]] + [number for field in pattern[1] for number in flat(field)]


def valued(kinds, t, above=()):
    """Whether t has a value: a smallest one never needs, within it, a value of its own kind."""
    return t not in above and any(makes(kinds, fields, above + (t,)) for fields in kinds[t])


def makes(kinds, fields, above=()):
    return all(valued(kinds, field, above) for field in fields)


def specialized(row, c, count):
    """The row with c taken off, or None if it is not kept."""
    if row[0] == ANYTHING:
        return [ANYTHING] * count + row[1:]
    if row[0][0] == c:
        return row[0][1] + row[1:]
    return None


def shown_row(kinds, wanted, rows, asked):
    if not wanted:
        return None if rows else []
    if asked[0] != ANYTHING:
        return shown_under(kinds, wanted, rows, asked, asked[0][0])
    if not valued(kinds, wanted[0]):
        return None
    if all(row[0] == ANYTHING for row in rows):
        rest = shown_row(kinds, wanted[1:], [row[1:] for row in rows], asked[1:])
        return None if rest is None else [ANYTHING] + rest
    for c in range(len(kinds[wanted[0]])):
        found = shown_under(kinds, wanted, rows, asked, c)
        if found is not None:
            return found
    return None


def shown_under(kinds, wanted, rows, asked, c):
    fields = list(kinds[wanted[0]][c])
    if not makes(kinds, fields):
        return None
    kept = [specialized(row, c, len(fields)) for row in rows]
    kept = [row for row in kept if row is not None]
    found = shown_row(kinds, fields + wanted[1:], kept, specialized(asked, c, len(fields)))
    if found is None:
        return None
    return [(c, found[:len(fields)])] + found[len(fields):]


def missing_by_the_words(kinds, t, clauses):
    rows = [[nested(kinds, t, pattern)] for pattern in clauses]
    found = shown_row(kinds, [t], rows, [ANYTHING])
    return None if found is None else flat(found[0])


def reached_by_the_words(kinds, t, clauses, i):
    rows = [[nested(kinds, t, pattern)] for pattern in clauses[:i + 1]]
    found = shown_row(kinds, [t], rows[:i], rows[i])
    return None if found is None else flat(found[0])


def fits(value, pattern):
    if pattern == ANYTHING:
        return True
    return value[0] == pattern[0] and all(fits(v, p) for v, p in zip(value[1], pattern[1]))


def first_by_the_words(kinds, t, clauses, value):
    """The first clause of a nested value, or -1."""
    for i, pattern in enumerate(clauses):
        if fits(value, nested(kinds, t, pattern)):
            return i
    return -1


def part_at(pattern, way):
    """What a pattern has at a position, or None if it doesn't go there."""
    for place in way:
        if pattern == ANYTHING or place >= len(pattern[1]):
            return None
        pattern = pattern[1][place]
    return pattern


def constructors_in(pattern, way=()):
    """The constructors' positions in the order of the numbers."""
    if pattern == ANYTHING:
        return []
    return [way] + [found for place, field in enumerate(pattern[1]) for found in constructors_in(field, way + (place,))]


def ruled_out(pattern, answered):
    parts = [(part_at(pattern, way), c) for way, c in answered.items()]
    return any(part is not None and part != ANYTHING and part[0] != c for part, c in parts)


def next_by_the_words(kinds, t, clauses, answered):
    """What choose answers with these constructors answered, each at the position that was asked for."""
    for i, pattern in enumerate(nested(kinds, t, numbers) for numbers in clauses):
        if not ruled_out(pattern, answered):
            unasked = [way for way in constructors_in(pattern) if way not in answered]
            return [1, *unasked[0]] if unasked else [2, i]
    return [3]


def kind_at(kinds, t, way, answered):
    for step, place in enumerate(way):
        t = kinds[t][answered[way[:step]]][place]
    return t


def chosen_by_the_words(kinds, t, clauses, constructors):
    answered = {}
    for c in constructors:
        turn = next_by_the_words(kinds, t, clauses, answered)
        if turn[0] != 1:
            return [-2]
        way = tuple(turn[1:])
        known = kinds[kind_at(kinds, t, way, answered)]
        if c >= len(known) or not makes(kinds, known[c]):
            return [-2]
        answered[way] = c
    return next_by_the_words(kinds, t, clauses, answered)


def values_of(kinds, t, depth, most):
    """Some values of t, nested no deeper than depth."""
    if depth == 0:
        return []
    found = []
    for c, fields in enumerate(kinds[t]):
        parts = [[]]
        for field in fields:
            choices = values_of(kinds, field, depth - 1, most)
            parts = [part + [value] for part in parts for value in choices][:most]
        found.extend((c, part) for part in parts)
    return found


# Kinds and clauses to try things on, out of a drawing with a fixed seed.

def some_kinds(draw):
    count = draw.randint(1, 4)
    kinds = []
    for t in range(count):
        constructors = []
        for c in range(draw.randint(0, 4)):
            constructors.append([draw.randrange(count) for field in range(draw.choice([0, 0, 1, 1, 2, 2, 3, 4]))])
        kinds.append(constructors)
    return kinds


def some_pattern(draw, kinds, t, depth):
    if depth == 0 or not kinds[t] or draw.random() < 0.35:
        return [ANYTHING]
    c = draw.randrange(len(kinds[t]))
    numbers = [c]
    for field in kinds[t][c]:
        numbers.extend(some_pattern(draw, kinds, field, depth - 1))
    return numbers


def some_clauses(draw, kinds, t):
    clauses = []
    for i in range(draw.randint(0, 10)):
        pattern = some_pattern(draw, kinds, t, draw.randint(1, 3))
        # 255 alone would leave little to find.
        if len(pattern) > 1 or pattern != [ANYTHING] or draw.random() < 0.1:
            if sum(map(len, clauses)) + len(pattern) <= 64:
                clauses.append(pattern)
    return clauses


def heights(kinds):
    """How deep each kind's flattest value is nested; one without a value has no height."""
    found = {}
    for turn in range(len(kinds)):
        before = dict(found)
        for t, constructors in enumerate(kinds):
            if t not in found and any(all(field in before for field in fields) for fields in constructors):
                found[t] = turn
    return found


def some_value(draw, kinds, t, depth, high=None):
    """A nested value of t, which has one: not much deeper than depth."""
    high = high or heights(kinds)
    choices = [c for c, fields in enumerate(kinds[t]) if all(field in high for field in fields)]
    if depth <= 0:
        choices = [c for c in choices if all(high[field] < high[t] for field in kinds[t][c])]
    c = draw.choice(choices)
    return (c, [some_value(draw, kinds, field, depth - 1, high) for field in kinds[t][c]])


def some_value_under(draw, kinds, t, pattern, depth=1):
    """A nested value that fits a nested pattern; None if it has none."""
    if pattern == ANYTHING:
        return some_value(draw, kinds, t, depth) if valued(kinds, t) else None
    parts = []
    for field, part in zip(kinds[t][pattern[0]], pattern[1]):
        parts.append(some_value_under(draw, kinds, field, part, depth))
    return None if None in parts else (pattern[0], parts)


def some_values(draw, kinds, t, clauses, count):
    """Values of t, most of them such as fit a clause."""
    patterns = [ANYTHING] * 2 + [nested(kinds, t, pattern) for pattern in clauses]
    found = [some_value_under(draw, kinds, t, draw.choice(patterns), draw.randint(0, 2)) for turn in range(count)]
    return [value for value in found if value is not None]


def some_match(draw):
    """Kinds, one of them, and clauses of it."""
    kinds = some_kinds(draw)
    t = draw.randrange(len(kinds))
    # One without a value would leave little to find.
    while not valued(kinds, t) and draw.random() < 0.9:
        kinds = some_kinds(draw)
        t = draw.randrange(len(kinds))
    return kinds, t, some_clauses(draw, kinds, t)
