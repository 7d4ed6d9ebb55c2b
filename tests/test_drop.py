"""Calls 11 and 12, and P4: a clause goes, and a match ends."""

import random
import unittest

from support import (
    FURTHEST, ask, begin, choose, clause, con, declared, drop, end, first_by_the_words, flat, has_value, kind, last,
    missing, reach, reached_of, some_match, some_values, told_of, useless, useless_of, which,
)

BOOL = [[], []]
# 0: a list of 1; 1: two words; 2: a number.
KINDS = [[[], [1, 0]], BOOL, [[], [2]]]


class DropCall(unittest.TestCase):
    def test_none_without_a_match(self):
        for i in (0, 1, FURTHEST):
            self.assertEqual(last(drop(i)), [-4])
            self.assertEqual(last(kind(), con(0), drop(i)), [-4])

    def test_no_such_clause(self):
        for i in (0, 1, 255, FURTHEST):
            self.assertEqual(told_of(KINDS, 0, [], drop(i)), [[-2]])
        for i in (2, 3, 31, 32, 255, 256, FURTHEST):
            self.assertEqual(told_of(KINDS, 0, [[0], [255]], drop(i), drop(1), drop(1)), [[-2], [1], [-2]])

    def test_how_many_there_are_then(self):
        told = told_of(KINDS, 0, [[0], [255], [255]], drop(0), drop(1), drop(0), drop(0))
        self.assertEqual(told, [[2], [1], [0], [-2]])

    def test_those_behind_it_are_one_less(self):
        clauses = [[1, 0, 255], [0], [1, 1, 255], [255]]
        calls = [which(1, 0, 0), which(0), which(1, 1, 0)]
        self.assertEqual(told_of(KINDS, 0, clauses, drop(1), *calls), [[3], [0], [2], [1]])
        self.assertEqual(told_of(KINDS, 0, clauses, drop(0), *calls), [[3], [2], [0], [1]])
        self.assertEqual(told_of(KINDS, 0, clauses, drop(3), *calls), [[3], [0], [1], [2]])
        self.assertEqual(told_of(KINDS, 0, clauses, drop(0), drop(0), *calls), [[3], [2], [1], [1], [0]])

    def test_only_the_one_of_several_alike(self):
        told = told_of(KINDS, 1, [[0], [1], [0]], drop(2), which(0), which(1), drop(0), which(0), which(1))
        self.assertEqual(told, [[2], [0], [1], [1], [-1], [0]])

    def test_the_last_of_32(self):
        told = told_of(KINDS, 1, [[0]] * 31 + [[1]], drop(32), which(1), drop(31), which(1), missing())
        self.assertEqual(told, [[-2], [31], [31], [-1], [1, 1]])

    def test_a_refused_one_changes_nothing(self):
        told = told_of(KINDS, 1, [[0], [255]], drop(2), drop(FURTHEST), which(0), which(1), useless(), drop(1))
        self.assertEqual(told, [[-2], [-2], [0], [1], [0], [1]])


class WhatIsLeft(unittest.TestCase):
    def test_missing(self):
        told = told_of(KINDS, 0, [[0], [255]], missing(), drop(1), missing(), drop(0), missing())
        self.assertEqual(told, [[0], [1], [3, 1, 255, 255], [0], [1, 255]])

    def test_reach(self):
        told = told_of(KINDS, 0, [[0], [255], [1, 0, 255]], reach(2), drop(1), reach(1), reach(2), drop(0), reach(0))
        self.assertEqual(told, [[0], [2], [3, 1, 0, 255], [-2], [1], [3, 1, 0, 255]])

    def test_choose(self):
        clauses = [[0], [1, 0, 255], [255]]
        told = told_of(KINDS, 0, clauses, choose(1), drop(1), choose(1), drop(0), choose(), drop(0), choose())
        self.assertEqual(told, [[1, 0], [2], [2, 1], [1], [2, 0], [0], [3]])

    def test_useless(self):
        clauses = [[255], [0], [1, 0, 255], [255]]
        told = told_of(KINDS, 0, clauses, useless(), drop(0), useless(), clause(255), useless(), drop(1), useless())
        self.assertEqual(told, [[3, 1, 2, 3], [3], [0], [3], [1, 3], [3], [1, 2]])

    def test_32_clauses(self):
        told = told_of(KINDS, 1, [[0]] * 32, clause(1), drop(5), clause(1), clause(1), which(1))
        self.assertEqual(told, [[-3], [31], [31], [-3], [31]])

    def test_64_numbers(self):
        clauses = [[1] * 40 + [255], [1] * 20 + [255], [255]]
        told = told_of(KINDS, 2, clauses, clause(1, 255), clause(0), clause(0), drop(1), clause(*[1] * 20, 0),
                       clause(255), drop(2), clause(1, 255), clause(255), clause(255))
        self.assertEqual(told, [[-3], [3], [-3], [3], [3], [-3], [3], [-3], [3], [-3]])


class EndCall(unittest.TestCase):
    def test_none_without_a_match(self):
        self.assertEqual(last(end()), [-4])
        self.assertEqual(last(kind(), con(0), end()), [-4])
        self.assertEqual(told_of(KINDS, 0, [[0]], end(), end()), [[0], [-4]])

    def test_answers_0(self):
        self.assertEqual(told_of(KINDS, 0, [], end()), [[0]])
        self.assertEqual(told_of(KINDS, 0, [[0], [255]], end()), [[0]])

    def test_behind_it_no_match_is_on(self):
        calls = [clause(255), missing(), reach(0), which(0), choose(), useless(), drop(0), end()]
        self.assertEqual(told_of(KINDS, 0, [[255]], end(), *calls), [[0]] + [[-4]] * 8)

    def test_kinds_and_constructors_may_be_added_behind_it(self):
        told = told_of(KINDS, 0, [], kind(), con(0), begin(0), end(), kind(), con(0), begin(0), kind(), con(0), begin(1))
        self.assertEqual(told, [[-4], [-4], [-4], [0], [3], [2], [0], [-4], [-4], [-4]])

    def test_kinds_stay(self):
        told = told_of(KINDS, 0, [[0]], end(), has_value(2), has_value(3), begin(3), begin(1), clause(1), clause(2),
                       missing())
        self.assertEqual(told, [[0], [1], [-2], [-2], [0], [0], [-2], [1, 0]])

    def test_the_clauses_are_gone(self):
        told = told_of(KINDS, 0, [[0], [255]], end(), begin(0), missing(), useless(), choose(), which(0), reach(0),
                       drop(0), clause(0))
        self.assertEqual(told, [[0], [0], [1, 255], [0], [3], [-1], [-2], [-2], [0]])

    def test_the_limits_begin_anew(self):
        thirty_two = [clause(0)] * 32
        told = told_of(KINDS, 1, [[1]] * 32, clause(1), end(), begin(1), *thirty_two, clause(1), which(1), which(0))
        self.assertEqual(told, [[-3], [0], [0]] + [[i] for i in range(32)] + [[-3], [-1], [0]])
        full = [1] * 63 + [255]
        told = told_of(KINDS, 2, [full], clause(255), end(), begin(2), clause(*full), clause(255))
        self.assertEqual(told, [[-3], [0], [0], [0], [-3]])

    def test_what_was_added_counts_in_the_next_match(self):
        told = ask(kind(), kind(), con(0, 1), con(0), begin(0), clause(1), missing(), which(0, 0), choose(0),
                   end(), con(1), begin(0), clause(1), missing(), which(0, 0), choose(0), useless())
        self.assertEqual(told[6:9], [[0], [-2], [-2]])
        self.assertEqual(told[11:], [[0], [0], [2, 0, 255], [-1], [3], [0]])

    def test_a_match_on_another_kind(self):
        told = told_of(KINDS, 0, [[1, 0, 0]], which(1, 0, 0), end(), begin(2), which(1, 0, 0), clause(1, 0),
                       which(1, 0), end(), begin(0), which(1, 0))
        self.assertEqual(told, [[0], [0], [0], [-2], [0], [0], [0], [0], [-2]])


class AgainstTheWords(unittest.TestCase):
    def setUp(self):
        # A fixed seed: the same kinds, clauses and values each time.
        self.draw = random.Random(11)

    def test_a_useless_clause_may_go(self):
        dropped = 0
        for turn in range(400):
            kinds, t, clauses = some_match(self.draw)
            values = some_values(self.draw, kinds, t, clauses, 10)
            asked = [which(*flat(value)) for value in values]
            for i in useless_of(kinds, t, clauses):
                told = told_of(kinds, t, clauses, *asked, missing(), drop(i), *asked, missing())
                before, after = told[:len(values)], told[-1 - len(values):-1]
                self.assertEqual(after, [[first[0] - (first[0] > i)] for first in before], (kinds, t, clauses, i))
                self.assertEqual(told[-1] == [0], told[len(values)] == [0])
                dropped += 1
        self.assertGreater(dropped, 200)

    def test_all_useless_clauses_may_go_one_behind_another(self):
        for turn in range(300):
            kinds, t, clauses = some_match(self.draw)
            idle = useless_of(kinds, t, clauses)
            values = some_values(self.draw, kinds, t, clauses, 5)
            told = told_of(kinds, t, clauses, *[drop(i) for i in reversed(idle)], useless(),
                           *[which(*flat(value)) for value in values])
            self.assertEqual(told[len(idle)], [0], (kinds, t, clauses))
            kept = [i for i in range(len(clauses)) if i not in idle]
            for value, answer in zip(values, told[len(idle) + 1:]):
                first = first_by_the_words(kinds, t, clauses, value)
                self.assertEqual(-1 if answer == [-1] else kept[answer[0]], first, (kinds, t, clauses, value))

    def test_what_is_left_is_as_if_it_had_been_so(self):
        for turn in range(300):
            kinds, t, clauses = some_match(self.draw)
            left = list(clauses)
            calls = []
            while left and self.draw.random() < 0.7:
                i = self.draw.randrange(len(left))
                left.pop(i)
                calls.append(drop(i))
            calls += [reach(i) for i in range(len(left))] + [missing(), useless(), choose(), clause(255), useless()]
            told = told_of(kinds, t, clauses, *calls)
            count = len(clauses) - len(left)
            self.assertEqual(told[:count], [[len(clauses) - 1 - i] for i in range(count)])
            self.assertEqual(told[count:], told_of(kinds, t, left, *calls[count:]), (kinds, t, clauses, calls))

    def test_a_match_begun_again_is_as_new(self):
        for turn in range(200):
            kinds, t, clauses = some_match(self.draw)
            again = [end(), begin(t)] + [clause(*pattern) for pattern in clauses]
            calls = [reach(i) for i in range(len(clauses))] + [missing(), useless()]
            told = ask(*declared(kinds), begin(t), clause(255), *again, *calls)
            self.assertEqual(told[-len(calls):], told_of(kinds, t, clauses, *calls), (kinds, t, clauses))

    def test_dropped_and_told_again_at_the_end_it_catches_what_is_left(self):
        for turn in range(200):
            kinds, t, clauses = some_match(self.draw)
            if clauses:
                first = clauses[0]
                told = told_of(kinds, t, clauses, drop(0), clause(*first), reach(len(clauses) - 1))
                expected = reached_of(kinds, t, clauses[1:] + [first])[-1]
                self.assertEqual(told[2][1:] or None, expected, (kinds, t, clauses))


if __name__ == "__main__":
    unittest.main()
