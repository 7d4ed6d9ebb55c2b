"""Call 6 and P1: what's missing."""

import random
import sys
import unittest

from matchclauses.desk import answers
from support import (
    ANYTHING, ask, begin, clause, con, declared, fits, joined, kind, last, missing, missing_by_the_words,
    missing_of, nested, nested_calls, some_clauses, some_kinds, split_answers, valued, values_of,
)

BOOL = [[], []]


class MissingCall(unittest.TestCase):
    def test_none_without_a_match(self):
        self.assertEqual(last(missing()), [-4])
        self.assertEqual(last(kind(), con(0), missing()), [-4])

    def test_with_no_clauses(self):
        self.assertEqual(missing_of([[[]]], 0, []), [255])
        self.assertEqual(missing_of([[[0], []]], 0, []), [255])

    def test_0_alone_if_nothing_is(self):
        self.assertEqual(last(kind(), con(0), begin(0), clause(255), missing()), [0])
        self.assertEqual(last(kind(), con(0), begin(0), clause(0), missing()), [0])

    def test_how_many_numbers_and_they(self):
        told = ask(kind(), con(0), con(0, 0, 0), begin(0), clause(0), missing(), clause(1, 0, 255), missing())
        self.assertEqual(told[5], [3, 1, 255, 255])
        self.assertEqual(told[7], [5, 1, 1, 255, 255, 255])

    def test_it_changes_nothing(self):
        told = ask(kind(), con(0), con(0), begin(0), missing(), missing(), clause(0), missing(), missing(), clause(1))
        self.assertEqual(told[4:], [[1, 255], [1, 255], [0], [1, 1], [1, 1], [1]])


class NoValue(unittest.TestCase):
    def test_of_a_kind_without_constructors(self):
        self.assertIsNone(missing_of([[]], 0, []))
        self.assertIsNone(missing_of([[]], 0, [[255]]))

    def test_of_a_kind_that_needs_itself(self):
        self.assertIsNone(missing_of([[[0]]], 0, []))
        self.assertIsNone(missing_of([[[0]]], 0, [[0, 255]]))
        self.assertIsNone(missing_of([[[1]], [[0], [1, 0]]], 1, []))
        self.assertIsNone(missing_of([[[1]], [[0], [1, 0]]], 1, [[1, 255, 255]]))

    def test_constructors_that_make_none_are_passed_over(self):
        kinds = [[[1], [], [1, 0], []], []]
        self.assertEqual(missing_of(kinds, 0, [[1]]), [3])
        self.assertIsNone(missing_of(kinds, 0, [[1], [3]]))
        self.assertEqual(missing_of(kinds, 0, [[0, 255]]), [1])
        self.assertEqual(missing_of(kinds, 0, [[2, 255, 255], [1]]), [3])

    def test_within_a_field(self):
        kinds = [[[1, 2]], [[3], [], []], BOOL, []]
        self.assertEqual(missing_of(kinds, 0, [[0, 0, 255, 255]]), [0, 1, 255])
        self.assertEqual(missing_of(kinds, 0, [[0, 1, 255]]), [0, 2, 255])
        self.assertIsNone(missing_of(kinds, 0, [[0, 1, 255], [0, 2, 255]]))


class Order(unittest.TestCase):
    def test_constructors_in_order(self):
        kinds = [[[], [], [], []]]
        self.assertEqual(missing_of(kinds, 0, [[1]]), [0])
        self.assertEqual(missing_of(kinds, 0, [[0]]), [1])
        self.assertEqual(missing_of(kinds, 0, [[2], [0]]), [1])
        self.assertEqual(missing_of(kinds, 0, [[2], [0], [1]]), [3])

    def test_one_that_is_named_may_come_before_one_that_is_not(self):
        kinds = [[[0], []]]
        self.assertEqual(missing_of(kinds, 0, [[0, 0, 255]]), [0, 1])
        self.assertEqual(missing_of(kinds, 0, [[0, 0, 255], [0, 1]]), [1])

    def test_one_that_is_not_named_may_come_before_one_that_is(self):
        kinds = [[[1, 1], [0], []], BOOL]
        self.assertEqual(missing_of(kinds, 0, [[1, 0, 255, 255]]), [0, 255, 255])

    def test_255_where_no_row_begins_with_a_constructor(self):
        kinds = [[[1, 1, 1, 1]], BOOL]
        self.assertEqual(missing_of(kinds, 0, [[0, 255, 0, 255, 255]]), [0, 255, 1, 255, 255])
        self.assertEqual(missing_of(kinds, 0, [[0, 255, 255, 255, 1]]), [0, 255, 255, 255, 0])
        self.assertEqual(missing_of(kinds, 0, [[0, 1, 255, 255, 255]]), [0, 0, 255, 255, 255])

    def test_a_constructor_where_one_row_begins_with_one(self):
        kinds = [[[1, 1]], BOOL]
        self.assertEqual(missing_of(kinds, 0, [[0, 255, 0], [0, 0, 255]]), [0, 1, 1])
        self.assertEqual(missing_of(kinds, 0, [[0, 255, 0], [0, 1, 1]]), [0, 0, 1])

    def test_rows_without_the_constructor_are_gone_behind_it(self):
        kinds = [[[1, 1]], BOOL]
        self.assertEqual(missing_of(kinds, 0, [[0, 0, 0], [0, 1, 1]]), [0, 0, 1])
        self.assertEqual(missing_of(kinds, 0, [[0, 0, 255], [0, 1, 0]]), [0, 1, 1])

    def test_255_is_replaced_by_one_for_each_field(self):
        kinds = [[[1, 2]], [[2, 2], []], BOOL]
        rows = [[0, 255, 0], [0, 0, 0, 255, 255], [0, 1, 255]]
        self.assertEqual(missing_of(kinds, 0, rows), [0, 0, 1, 255, 1])

    def test_a_list_of_two(self):
        kinds = [[[], [1, 0]], BOOL]
        self.assertEqual(missing_of(kinds, 0, [[0], [1, 255, 0]]), [1, 255, 1, 255, 255])
        self.assertEqual(missing_of(kinds, 0, [[0], [1, 255, 0], [1, 255, 1, 0, 255]]), [1, 255, 1, 1, 255])
        self.assertIsNone(missing_of(kinds, 0, [[0], [1, 255, 0], [1, 255, 1, 255, 255]]))


class Large(unittest.TestCase):
    def test_deep_to_the_last_number(self):
        kinds = [[[0], []]]
        self.assertEqual(missing_of(kinds, 0, [[0] * 63 + [1]]), [0] * 64 + [255])
        self.assertEqual(missing_of(kinds, 0, [[0] * 63 + [255]]), [0] * 62 + [1])

    def test_many_fields_waiting_are_gone_through_by_loops(self):
        kinds = [[[0, 0, 0, 0], []]]
        pattern = [0] * 15 + [255] * 46
        calls = joined(declared(kinds) + [begin(0), clause(*pattern), missing()])
        limit = sys.getrecursionlimit()
        sys.setrecursionlimit(nested_calls() + 40)
        try:
            told = answers(calls)
        finally:
            sys.setrecursionlimit(limit)
        expected = [0] * 14 + [1] + [255] * 42
        self.assertEqual(split_answers(told)[-1], [len(expected)] + expected)


class AgainstTheWords(unittest.TestCase):
    def setUp(self):
        # A fixed seed: the same kinds and clauses each time.
        self.draw = random.Random(20261116)

    def test_the_same_pattern_as_the_words_find(self):
        shown = 0
        for turn in range(1500):
            kinds = some_kinds(self.draw)
            t = self.draw.randrange(len(kinds))
            clauses = some_clauses(self.draw, kinds, t)
            found = missing_of(kinds, t, clauses)
            self.assertEqual(found, missing_by_the_words(kinds, t, clauses), (kinds, t, clauses))
            shown += found is not None
        self.assertGreater(shown, 300)
        self.assertLess(shown, 1200)

    def test_values_that_fit_it_fit_no_clause(self):
        seen = 0
        for turn in range(600):
            kinds = some_kinds(self.draw)
            t = self.draw.randrange(len(kinds))
            clauses = some_clauses(self.draw, kinds, t)
            found = missing_of(kinds, t, clauses)
            patterns = [nested(kinds, t, pattern) for pattern in clauses]
            for value in values_of(kinds, t, 3, 60):
                caught = any(fits(value, pattern) for pattern in patterns)
                if found is None:
                    self.assertTrue(caught, (kinds, t, clauses, value))
                elif fits(value, nested(kinds, t, found)):
                    self.assertFalse(caught, (kinds, t, clauses, value))
                    seen += 1
        self.assertGreater(seen, 300)

    def test_what_is_shown_has_a_value(self):
        for turn in range(600):
            kinds = some_kinds(self.draw)
            t = self.draw.randrange(len(kinds))
            found = missing_of(kinds, t, some_clauses(self.draw, kinds, t))
            if found is not None:
                self.has_value_under(kinds, t, nested(kinds, t, found))

    def has_value_under(self, kinds, t, pattern):
        if pattern == ANYTHING:
            self.assertTrue(valued(kinds, t))
        else:
            for field, part in zip(kinds[t][pattern[0]], pattern[1]):
                self.has_value_under(kinds, field, part)


if __name__ == "__main__":
    unittest.main()
