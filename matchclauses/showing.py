"""What's shown: the first pattern, in the order of constructors, that some rows leave over.

Patterns stay the numbers that they are told in: what stands first in a row is
its first number, and a constructor taken off leaves its fields' patterns first.
"""

from matchclauses.patterns import ANYTHING, makes_value, valued_kinds


class Step:
    def __init__(self, told, waiting, rows, asked):
        self.told = told
        self.waiting = waiting
        self.rows = rows
        self.asked = asked


def without_first(row, number, fields):
    if row[0] == number:
        return row[1:]
    return (ANYTHING,) * len(fields) + row[1:]


# 255 is taken off like a constructor without fields.
def step_under(step, number, fields):
    rows = [without_first(row, number, fields) for row in step.rows if row[0] in (number, ANYTHING)]
    asked = without_first(step.asked, number, fields)
    return Step(step.told + (number,), fields + step.waiting[1:], tuple(rows), asked)


# Of constructors that no row begins with, each leaves the same rows over: where
# the first that makes a value shows nothing the others don't either.
def worth_trying(constructors, valued, heads):
    tried = []
    spoken_for = False
    for number, fields in enumerate(constructors):
        named = number in heads
        if makes_value(fields, valued) and (named or not spoken_for):
            tried.append(number)
            spoken_for = spoken_for or not named
    return tried


def steps_behind(step, kinds, valued):
    kind = step.waiting[0]
    constructors = kinds[kind]
    head = step.asked[0]
    if head != ANYTHING:
        made = makes_value(constructors[head], valued)
        return [step_under(step, head, constructors[head])] if made else []
    if not valued[kind]:
        return []
    heads = [row[0] for row in step.rows if row[0] != ANYTHING]
    if not heads:
        return [step_under(step, ANYTHING, ())]
    return [step_under(step, number, constructors[number]) for number in worth_trying(constructors, valued, heads)]


# None if nothing is shown. The steps that are left are kept in a list, the one
# to try first at its end: a row may take more steps than calls may be nested.
# What was tried before showed nothing, and without keeping that in mind the
# same would be tried for every choice of constructors that comes to it.
def shown_pattern(kinds, kind, rows, asked):
    valued = valued_kinds(kinds)
    left = [Step((), (kind,), tuple(rows), asked)]
    tried = {}
    while left:
        step = left.pop()
        if not step.waiting and not step.rows:
            return step.told
        problem = (step.waiting, step.rows, step.asked)
        if step.waiting and problem not in tried:
            tried[problem] = True
            left.extend(list(reversed(steps_behind(step, kinds, valued))))
    return None
