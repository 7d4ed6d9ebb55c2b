"""What the tests share: the calls as they are told, and the document's words read straight.

`shown_row` and the rest below the calls follow the document sentence by
sentence, on nested patterns and by recursion, with nothing saved or skipped.
"""

from matchclauses.desk import answers

ANYTHING = 255
FURTHEST = 4294967295


# The calls.

def kind():
    return [1]


def con(t, *fields):
    return [2, t, len(fields), *fields]


def has_value(t):
    return [3, t]


def begin(t):
    return [4, t]


def clause(*pattern):
    return [5, len(pattern), *pattern]


def missing():
    return [6]


def joined(calls):
    return [number for call in calls for number in call]


def split_answers(told):
    found = []
    place = 0
    while place < len(told):
        start = place + 1
        place = start + told[place]
        if told[start - 1] < 1 or place > len(told):
            raise AssertionError(f"no row of answers: {told}")
        found.append(told[start:place])
    return found


def ask(*calls):
    found = split_answers(answers(joined(calls)))
    if len(found) != len(calls):
        raise AssertionError(f"{len(calls)} calls, {len(found)} answers")
    return found


def last(*calls):
    return ask(*calls)[-1]


def declared(kinds):
    """The calls that make these kinds, each a list of constructors, each its fields."""
    calls = [kind() for constructors in kinds]
    for t, constructors in enumerate(kinds):
        calls.extend(con(t, *fields) for fields in constructors)
    return calls


def missing_of(kinds, t, clauses):
    """The numbers of what's missing, or None."""
    calls = declared(kinds) + [begin(t)] + [clause(*pattern) for pattern in clauses] + [missing()]
    told = ask(*calls)
    for answer in told:
        if answer[0] < 0:
            raise AssertionError(f"refused: {calls} {told}")
    if len(told[-1]) != 1 + told[-1][0]:
        raise AssertionError(f"miscounted: {told[-1]}")
    return told[-1][1:] or None


# The document, read straight. A nested pattern is 255, or (constructor, [fields' patterns]).

def nested(kinds, t, numbers):
    numbers = list(numbers)

    def read(t):
        number = numbers.pop(0)
        if number == ANYTHING:
            return ANYTHING
        return (number, [read(field) for field in kinds[t][number]])

    pattern = read(t)
    if numbers:
        raise AssertionError(f"numbers left: {numbers}")
    return pattern


def flat(pattern):
    if pattern == ANYTHING:
        return [ANYTHING]
    return [pattern[0]] + [number for field in pattern[1] for number in flat(field)]


def valued(kinds, t, above=()):
    """Whether t has a value: a smallest one never needs, within it, a value of its own kind."""
    return t not in above and any(makes(kinds, fields, above + (t,)) for fields in kinds[t])


def makes(kinds, fields, above=()):
    return all(valued(kinds, field, above) for field in fields)


def specialized(row, c, count):
    """The row with c taken off, or None if it is not kept."""
    if row[0] == ANYTHING:
        return [ANYTHING] * count + row[1:]
    if row[0][0] == c:
        return row[0][1] + row[1:]
    return None


def shown_row(kinds, wanted, rows, asked):
    if not wanted:
        return None if rows else []
    if asked[0] != ANYTHING:
        return shown_under(kinds, wanted, rows, asked, asked[0][0])
    if not valued(kinds, wanted[0]):
        return None
    if all(row[0] == ANYTHING for row in rows):
        rest = shown_row(kinds, wanted[1:], [row[1:] for row in rows], asked[1:])
        return None if rest is None else [ANYTHING] + rest
    for c in range(len(kinds[wanted[0]])):
        found = shown_under(kinds, wanted, rows, asked, c)
        if found is not None:
            return found
    return None


def shown_under(kinds, wanted, rows, asked, c):
    fields = list(kinds[wanted[0]][c])
    if not makes(kinds, fields):
        return None
    kept = [specialized(row, c, len(fields)) for row in rows]
    kept = [row for row in kept if row is not None]
    found = shown_row(kinds, fields + wanted[1:], kept, specialized(asked, c, len(fields)))
    if found is None:
        return None
    return [(c, found[:len(fields)])] + found[len(fields):]


def missing_by_the_words(kinds, t, clauses):
    rows = [[nested(kinds, t, pattern)] for pattern in clauses]
    found = shown_row(kinds, [t], rows, [ANYTHING])
    return None if found is None else flat(found[0])


def fits(value, pattern):
    if pattern == ANYTHING:
        return True
    return value[0] == pattern[0] and all(fits(v, p) for v, p in zip(value[1], pattern[1]))


def values_of(kinds, t, depth, most):
    """Some values of t, nested no deeper than depth."""
    if depth == 0:
        return []
    found = []
    for c, fields in enumerate(kinds[t]):
        parts = [[]]
        for field in fields:
            choices = values_of(kinds, field, depth - 1, most)
            parts = [part + [value] for part in parts for value in choices][:most]
        found.extend((c, part) for part in parts)
    return found


# Kinds and clauses to try things on, out of a drawing with a fixed seed.

def some_kinds(draw):
    count = draw.randint(1, 4)
    kinds = []
    for t in range(count):
        constructors = []
        for c in range(draw.randint(0, 4)):
            constructors.append([draw.randrange(count) for field in range(draw.choice([0, 0, 1, 1, 2, 2, 3, 4]))])
        kinds.append(constructors)
    return kinds


def some_pattern(draw, kinds, t, depth):
    if depth == 0 or not kinds[t] or draw.random() < 0.35:
        return [ANYTHING]
    c = draw.randrange(len(kinds[t]))
    numbers = [c]
    for field in kinds[t][c]:
        numbers.extend(some_pattern(draw, kinds, field, depth - 1))
    return numbers


def some_clauses(draw, kinds, t):
    clauses = []
    for i in range(draw.randint(0, 10)):
        pattern = some_pattern(draw, kinds, t, draw.randint(1, 3))
        # 255 alone would leave little to find.
        if len(pattern) > 1 or pattern != [ANYTHING] or draw.random() < 0.1:
            if sum(map(len, clauses)) + len(pattern) <= 64:
                clauses.append(pattern)
    return clauses
