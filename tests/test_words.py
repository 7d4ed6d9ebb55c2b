"""Whole lists of calls, answered beside the document's words read straight."""

import random
import unittest

from support import (
    ANYTHING, FURTHEST, ask, begin, choose, chosen_by_the_words, clause, con, drop, end, first_by_the_words, flat,
    has_value, kind, missing, missing_by_the_words, nested, reach, reached_by_the_words, some_pattern,
    some_value_under, useless, valued, which,
)


class Words:
    """The calls one by one, on lists of lists, each with its refusals as they're told."""

    def __init__(self):
        self.kinds = []
        self.t = None
        self.clauses = []

    def answer(self, call):
        number, rest = call[0], call[1:]
        if number in (1, 2, 4) and self.t is not None or number >= 5 and self.t is None:
            return [-4]
        return [self.kind, self.con, self.has_value, self.begin, self.clause, self.missing, self.reach, self.which,
                self.choose, self.useless, self.drop, self.end][number - 1](*rest)

    def kind(self):
        if len(self.kinds) == 16:
            return [-3]
        self.kinds.append([])
        return [len(self.kinds) - 1]

    def con(self, t, count, *fields):
        if t >= len(self.kinds) or count > 4 or any(field >= len(self.kinds) for field in fields):
            return [-2]
        if len(self.kinds[t]) == 16:
            return [-3]
        self.kinds[t].append(list(fields))
        return [len(self.kinds[t]) - 1]

    def has_value(self, t):
        return [-2] if t >= len(self.kinds) else [int(valued(self.kinds, t))]

    def begin(self, t):
        if t >= len(self.kinds):
            return [-2]
        self.t = t
        self.clauses = []
        return [0]

    def read(self, numbers):
        """The nested pattern, or None if the numbers aren't one, all of them."""
        try:
            return nested(self.kinds, self.t, numbers)
        except (IndexError, AssertionError):
            return None

    def clause(self, count, *pattern):
        if len(self.clauses) == 32 or sum(map(len, self.clauses)) + count > 64:
            return [-3]
        if self.read(pattern) is None:
            return [-2]
        self.clauses.append(pattern)
        return [len(self.clauses) - 1]

    def missing(self):
        found = missing_by_the_words(self.kinds, self.t, self.clauses) or []
        return [len(found), *found]

    def reach(self, i):
        if i >= len(self.clauses):
            return [-2]
        found = reached_by_the_words(self.kinds, self.t, self.clauses, i) or []
        return [len(found), *found]

    def which(self, count, *value):
        if count > 1024:
            return [-3]
        if ANYTHING in value or self.read(value) is None:
            return [-2]
        return [first_by_the_words(self.kinds, self.t, self.clauses, self.read(value))]

    def choose(self, count, *constructors):
        return chosen_by_the_words(self.kinds, self.t, self.clauses, constructors)

    def useless(self):
        found = [i for i in range(len(self.clauses)) if self.reach(i) == [0]]
        return [len(found), *found]

    def drop(self, i):
        if i >= len(self.clauses):
            return [-2]
        self.clauses = [pattern for number, pattern in enumerate(self.clauses) if number != i]
        return [len(self.clauses)]

    def end(self):
        self.t = None
        return [0]


def some_numbers(draw, numbers):
    """These numbers, now and then with one more, one less or another among them."""
    numbers = list(numbers)
    if draw.random() < 0.1:
        place = draw.randint(0, len(numbers))
        numbers[place:place + draw.randint(0, 1)] = [draw.choice([0, 1, 2, 9, 254, 255])] * draw.randint(0, 1)
    return numbers


def some_making(draw, words):
    """A call that makes kinds and constructors, or begins a match."""
    count = len(words.kinds)
    if count < 2 or draw.random() < 0.1:
        return kind()
    t = draw.choice([count, FURTHEST] if draw.random() < 0.05 else range(count))
    fields = [draw.randrange(count) for field in range(draw.choice([0, 0, 0, 1, 1, 2, 2, 3, 4]))]
    if draw.random() < 0.05:
        fields = draw.choice([fields + [count], [FURTHEST], [0] * 5, [0] * 64])
    if draw.random() < 0.7:
        return con(t, *fields)
    return has_value(t) if draw.random() < 0.4 else begin(t)


def some_answers(draw, words):
    """Answers that fit a value or are drawn, as far as they're taken."""
    given = []
    while words.answer(choose(*given))[0] == 1 and draw.random() < 0.85:
        given.append(draw.randrange(4))
        if words.answer(choose(*given)) == [-2] and draw.random() < 0.9:
            given.pop()
    return given


def some_asking(draw, words):
    """A call on the match that is on."""
    i = draw.choice([0, 1, 31, 32, len(words.clauses), FURTHEST] if draw.random() < 0.1
                    else range(len(words.clauses) or 1))
    pattern = some_pattern(draw, words.kinds, words.t, draw.randint(1, 3))
    pick = draw.random()
    if pick < 0.4:
        return clause(*some_numbers(draw, pattern))
    if pick < 0.6:
        value = some_value_under(draw, words.kinds, words.t, nested(words.kinds, words.t, pattern))
        return which(*some_numbers(draw, flat(value) if value else []))
    if pick < 0.75:
        return choose(*some_answers(draw, words))
    return draw.choice([missing(), reach(i), reach(i), useless(), drop(i), drop(i), draw.choice([end(), missing()])])


def some_line(draw, count):
    """Calls that go on from one another, and what the words answer."""
    words = Words()
    calls = []
    told = []
    for turn in range(count):
        on = words.t is not None
        if draw.random() < 0.05:
            on = not on
        if on and words.t is None:
            call = draw.choice([clause(0), missing(), reach(0), which(0), choose(), useless(), drop(0), end()])
        else:
            call = some_asking(draw, words) if on else some_making(draw, words)
        calls.append(call)
        told.append(words.answer(call))
    return calls, told


class AgainstTheWords(unittest.TestCase):
    def test_whole_lists(self):
        # A fixed seed: the same calls each time.
        draw = random.Random(12)
        seen = {}
        for turn in range(150):
            calls, expected = some_line(draw, draw.randint(20, 120))
            told = ask(*calls)
            for place, call in enumerate(calls):
                self.assertEqual(told[place], expected[place], calls[:place + 1])
                seen.setdefault(call[0], []).append(told[place][0])
        for number in range(1, 13):
            taken = [answer for answer in seen[number] if answer >= 0]
            self.assertGreater(len(taken), 50, number)


if __name__ == "__main__":
    unittest.main()
