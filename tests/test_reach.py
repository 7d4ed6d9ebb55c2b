"""Calls 7 and 10, and P1 as it speaks of reach: what comes to a clause, and the clauses nothing comes to."""

import random
import unittest

from support import (
    ANYTHING, FURTHEST, clause, con, first_by_the_words, fits, kind, last, missing, nested, reach,
    reached_by_the_words, reached_of, some_match, some_value_under, some_values, told_of, useless, useless_of,
)

BOOL = [[], []]
# 0: a list of 1; 1: two words.
LIST = [[[], [1, 0]], BOOL]


class ReachCall(unittest.TestCase):
    def test_none_without_a_match(self):
        for i in (0, 1, FURTHEST):
            self.assertEqual(last(reach(i)), [-4])
            self.assertEqual(last(kind(), con(0), reach(i)), [-4])

    def test_no_such_clause(self):
        for i in (0, 1, 255, FURTHEST):
            self.assertEqual(told_of(LIST, 0, [], reach(i)), [[-2]])
        for i in (2, 3, 31, 32, 255, 256, FURTHEST):
            self.assertEqual(told_of(LIST, 0, [[0], [255]], reach(i)), [[-2]])

    def test_the_last_of_32(self):
        clauses = [[0]] * 31 + [[255]]
        told = told_of(LIST, 1, clauses, reach(31), reach(32), reach(30))
        self.assertEqual(told, [[1, 1], [-2], [0]])

    def test_how_many_numbers_and_they(self):
        told = told_of(LIST, 0, [[0], [1, 0, 255], [255]], reach(0), reach(1), reach(2))
        self.assertEqual(told, [[1, 0], [3, 1, 0, 255], [3, 1, 1, 255]])

    def test_0_alone_if_nothing_comes(self):
        told = told_of(LIST, 0, [[255], [0], [255], [1, 255, 255]], reach(0), reach(1), reach(2), reach(3))
        self.assertEqual(told, [[1, 255], [0], [0], [0]])

    def test_it_changes_nothing(self):
        told = told_of(LIST, 1, [[0], [255]], reach(1), reach(2), reach(1), reach(0), missing(), clause(1), reach(1))
        self.assertEqual(told, [[1, 1], [-2], [1, 1], [1, 0], [0], [2], [1, 1]])


class WhatComes(unittest.TestCase):
    def test_the_first_clause_as_it_stands(self):
        for pattern in ([255], [0], [1, 255, 255], [1, 1, 255], [1, 255, 0], [1, 255, 1, 0, 255]):
            self.assertEqual(reached_of(LIST, 0, [pattern]), [pattern])

    def test_clauses_behind_it_say_nothing(self):
        clauses = [[1, 0, 255], [255], [0], [1, 255, 255], [255]]
        self.assertEqual(reached_of(LIST, 0, clauses)[:2], [[1, 0, 255], [0]])

    def test_its_own_constructors_are_kept(self):
        kinds = [[[1, 1, 1]], BOOL]
        clauses = [[0, 0, 255, 1], [0, 255, 1, 1], [0, 255, 0, 255], [0, 1, 255, 0], [0, 255, 255, 255]]
        expected = [[0, 0, 255, 1], [0, 1, 1, 1], [0, 0, 0, 0], [0, 1, 1, 0], [0, 0, 1, 0]]
        self.assertEqual(reached_of(kinds, 0, clauses), expected)

    def test_255_stays_where_no_row_begins_with_a_constructor(self):
        kinds = [[[1, 1]], BOOL]
        self.assertEqual(reached_of(kinds, 0, [[0, 255, 0], [0, 255, 255]])[1], [0, 255, 1])
        self.assertEqual(reached_of(kinds, 0, [[0, 0, 0], [0, 255, 255]])[1], [0, 0, 1])
        self.assertEqual(reached_of(kinds, 0, [[0, 0, 255], [0, 255, 255]])[1], [0, 1, 255])

    def test_constructors_in_order(self):
        kinds = [[[], [], [], []]]
        self.assertEqual(reached_of(kinds, 0, [[2], [0], [255]]), [[2], [0], [1]])
        self.assertEqual(reached_of(kinds, 0, [[2], [0], [1], [255]])[3], [3])
        self.assertEqual(reached_of(kinds, 0, [[2], [255], [1]]), [[2], [0], None])

    def test_together_the_clauses_before_it_catch_all(self):
        self.assertEqual(reached_of(LIST, 0, [[0], [1, 0, 255], [1, 1, 255], [255]])[3], None)
        clauses = [[1, 255, 0], [1, 0, 1, 255, 255], [1, 1, 255], [1, 255, 255], [255]]
        self.assertEqual(reached_of(LIST, 0, clauses)[2:], [[1, 1, 1, 255, 255], None, [0]])

    def test_of_a_constructor_that_makes_no_value(self):
        kinds = [[[1], [], [2, 0], [0]], [], [[2]]]
        clauses = [[0, 255], [2, 255, 255], [2, 0, 255, 255], [3, 0, 255], [3, 255], [255]]
        self.assertEqual(reached_of(kinds, 0, clauses), [None, None, None, None, [3, 1], [1]])

    def test_of_a_kind_without_a_value(self):
        self.assertEqual(reached_of([[]], 0, [[255], [255]]), [None, None])
        self.assertEqual(reached_of([[[0]]], 0, [[0, 255], [255]]), [None, None])

    def test_a_field_without_a_value_spares_no_other(self):
        kinds = [[[1, 2], [1]], [[3], []], BOOL, []]
        clauses = [[0, 0, 255, 255], [0, 255, 0], [0, 1, 255], [1, 255], [1, 1]]
        self.assertEqual(reached_of(kinds, 0, clauses), [None, [0, 1, 0], [0, 1, 1], [1, 255], None])

    def test_a_clause_of_all_64_numbers(self):
        kinds = [[[0], []]]
        self.assertEqual(reached_of(kinds, 0, [[0] * 63 + [255]]), [[0] * 63 + [255]])
        self.assertEqual(reached_of(kinds, 0, [[0] * 63 + [1]]), [[0] * 63 + [1]])
        self.assertEqual(reached_of(kinds, 0, [[0] * 62 + [1], [255]]), [[0] * 62 + [1], [0] * 63 + [255]])


class UselessCall(unittest.TestCase):
    def test_none_without_a_match(self):
        self.assertEqual(last(useless()), [-4])
        self.assertEqual(last(kind(), con(0), useless()), [-4])

    def test_without_clauses(self):
        self.assertEqual(told_of(LIST, 0, [], useless()), [[0]])
        self.assertEqual(told_of([[]], 0, [], useless()), [[0]])

    def test_0_alone_if_none_is(self):
        self.assertEqual(told_of(LIST, 0, [[0], [1, 255, 0], [255]], useless()), [[0]])

    def test_how_many_and_their_numbers_rising(self):
        told = told_of(LIST, 0, [[0], [0], [1, 0, 255], [1, 0, 0], [255], [1, 1, 255]], useless())
        self.assertEqual(told, [[3, 1, 3, 5]])

    def test_of_a_kind_without_a_value_all_are(self):
        self.assertEqual(told_of([[]], 0, [[255], [255]], useless()), [[2, 0, 1]])
        self.assertEqual(told_of([[[0]]], 0, [[0, 255], [255], [0, 0, 255]], useless()), [[3, 0, 1, 2]])

    def test_a_constructor_that_makes_no_value(self):
        self.assertEqual(useless_of([[[1], []], []], 0, [[0, 255], [1], [255]]), [0, 2])

    def test_32(self):
        self.assertEqual(useless_of(LIST, 1, [[255]] * 32), list(range(1, 32)))

    def test_it_changes_nothing(self):
        told = told_of(LIST, 1, [[0], [0]], useless(), useless(), clause(1), useless(), reach(1))
        self.assertEqual(told, [[1, 1], [1, 1], [2], [1, 1], [0]])


class AgainstTheWords(unittest.TestCase):
    def setUp(self):
        # A fixed seed: the same kinds and clauses each time.
        self.draw = random.Random(7)

    def test_reach_finds_the_same_as_the_words(self):
        narrowed = none = 0
        for turn in range(1000):
            kinds, t, clauses = some_match(self.draw)
            found = reached_of(kinds, t, clauses)
            for i, pattern in enumerate(clauses):
                self.assertEqual(found[i], reached_by_the_words(kinds, t, clauses, i), (kinds, t, clauses, i))
                narrowed += found[i] not in (None, pattern)
                none += found[i] is None
        self.assertGreater(narrowed, 150)
        self.assertGreater(none, 300)

    def test_useless_are_just_those_that_reach_answers_0_for(self):
        for turn in range(500):
            kinds, t, clauses = some_match(self.draw)
            found = reached_of(kinds, t, clauses)
            expected = [i for i in range(len(clauses)) if found[i] is None]
            self.assertEqual(useless_of(kinds, t, clauses), expected, (kinds, t, clauses))

    def test_all_values_that_fit_what_is_shown_come_to_the_clause(self):
        seen = 0
        for turn in range(600):
            kinds, t, clauses = some_match(self.draw)
            for i, shown in enumerate(reached_of(kinds, t, clauses)):
                if shown is not None:
                    for again in range(3):
                        value = some_value_under(self.draw, kinds, t, nested(kinds, t, shown), 2)
                        self.assertIsNotNone(value, (kinds, t, clauses, i))
                        self.assertEqual(first_by_the_words(kinds, t, clauses, value), i, (kinds, t, clauses, value))
                        seen += 1
        self.assertGreater(seen, 1000)

    def test_where_nothing_is_shown_no_value_comes(self):
        seen = 0
        for turn in range(600):
            kinds, t, clauses = some_match(self.draw)
            idle = useless_of(kinds, t, clauses)
            for value in some_values(self.draw, kinds, t, clauses, 20):
                self.assertNotIn(first_by_the_words(kinds, t, clauses, value), idle, (kinds, t, clauses, value))
                seen += any(fits(value, nested(kinds, t, clauses[i])) for i in idle)
        self.assertGreater(seen, 1000)

    def test_a_clause_of_anything_behind_all_is_reached_by_what_is_missing(self):
        for turn in range(300):
            kinds, t, clauses = some_match(self.draw)
            told = told_of(kinds, t, clauses, missing(), clause(ANYTHING), reach(len(clauses)))
            if told[1] != [-3]:
                self.assertEqual(told[2], told[0])


if __name__ == "__main__":
    unittest.main()
