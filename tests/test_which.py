"""Call 8 and P2: the first clause that a value fits."""

import random
import sys
import unittest

from matchclauses.desk import answers
from support import (
    clause, con, first_by_the_words, flat, joined, kind, last, matching, missing, nested_calls, some_match,
    some_values, split_answers, told_of, which,
)

# 0: a list of 1; 1: three words; 2: no value; 3: four fields, one of its own kind; 4: a number.
KINDS = [[[], [1, 0]], [[], [], []], [], [[1, 0, 3, 2], [1, 1, 3, 0], []], [[], [4]]]


def first(t, clauses, *value):
    return told_of(KINDS, t, clauses, which(*value))[0]


class WhichCall(unittest.TestCase):
    def test_the_first_that_fits(self):
        clauses = [[1, 0, 255], [0], [1, 255, 0], [255], [1, 1, 255]]
        self.assertEqual(first(0, clauses, 0), [1])
        self.assertEqual(first(0, clauses, 1, 0, 0), [0])
        self.assertEqual(first(0, clauses, 1, 2, 0), [2])
        self.assertEqual(first(0, clauses, 1, 1, 1, 0, 0), [3])

    def test_it_fits_none(self):
        self.assertEqual(first(0, [], 0), [-1])
        self.assertEqual(first(0, [[1, 255, 255]], 0), [-1])
        self.assertEqual(first(0, [[0], [1, 0, 255], [1, 255, 0]], 1, 1, 1, 0, 0), [-1])

    def test_255_stands_for_a_whole_value(self):
        clauses = [[1, 255, 255, 2, 1, 255, 0], [1, 0, 255, 255, 1, 1, 255], [255]]
        self.assertEqual(first(3, clauses, 1, 0, 1, 2, 1, 2, 0), [0])
        self.assertEqual(first(3, clauses, 1, 0, 1, 1, 2, 2, 2, 0, 1, 1, 0), [1])
        self.assertEqual(first(3, clauses, 1, 0, 1, 1, 0, 0, 2, 0, 1, 1, 1, 2, 0), [1])
        self.assertEqual(first(3, clauses, 1, 1, 1, 1, 0, 0, 2, 0, 1, 1, 1, 2, 0), [2])

    def test_the_last_of_32(self):
        self.assertEqual(first(1, [[0]] * 31 + [[2]], 2), [31])
        self.assertEqual(first(1, [[0]] * 31 + [[2]], 1), [-1])

    def test_of_what_is_no_value(self):
        self.assertEqual(first(1, [[255]], 255), [-2])
        self.assertEqual(first(0, [[255]], 1, 255, 0), [-2])
        self.assertEqual(first(0, [[255]], 1, 0, 255), [-2])
        self.assertEqual(first(0, [[255]], 1, 0, 1, 1, 255), [-2])

    def test_too_short(self):
        for value in ([], [1], [1, 0], [1, 0, 1], [1, 0, 1, 2]):
            self.assertEqual(first(0, [[255]], *value), [-2], value)

    def test_too_long(self):
        for value in ([0, 0], [0, 255], [1, 0, 0, 0], [1, 0, 1, 2, 0, 1]):
            self.assertEqual(first(0, [[255]], *value), [-2], value)

    def test_a_number_that_is_no_constructor(self):
        for value in ([2], [16], [254], [1, 3, 0], [1, 0, 2], [1, 254, 0], [1, 0, 1, 3, 0]):
            self.assertEqual(first(0, [[255]], *value), [-2], value)

    def test_it_is_refused_without_clauses_too(self):
        for value in ([], [255], [2], [0, 0], [1, 0]):
            self.assertEqual(first(0, [], *value), [-2], value)

    def test_of_a_kind_without_a_value(self):
        for value in ([], [0], [255], [0] * 1024, [255] * 1024):
            self.assertEqual(first(2, [[255]], *value), [-2])

    def test_constructors_that_make_no_value_cannot_be_told(self):
        self.assertEqual(first(3, [[255]], 0, 0, 0, 2), [-2])
        self.assertEqual(first(3, [[255]], 0, 0, 0, 2, 0), [-2])
        self.assertEqual(first(3, [[255]], 0, 0, 0, 2, 255), [-2])
        itself = [[[0], [0, 0]]]
        for value in ([0], [0] * 1024, [1] * 1024, [1, 0, 0]):
            self.assertEqual(told_of(itself, 0, [[255]], which(*value)), [[-2]])

    def test_none_without_a_match(self):
        for value in ([], [0], [255], [0] * 1024, [0] * 1025, [0] * 2048):
            self.assertEqual(last(which(*value)), [-4])
            self.assertEqual(last(kind(), con(0), which(*value)), [-4])

    def test_it_changes_nothing(self):
        told = told_of(KINDS, 1, [[0]], which(0), which(1), which(3), which(*[0] * 1025), which(0), missing(),
                       clause(1), which(1))
        self.assertEqual(told, [[0], [-1], [-2], [-3], [0], [1, 1], [1], [1]])


class Long(unittest.TestCase):
    def test_1024_numbers(self):
        value = [1] * 1023 + [0]
        self.assertEqual(first(4, [[0], [255]], *value), [1])
        self.assertEqual(first(4, [[0]], *value), [-1])
        self.assertEqual(first(4, [[1] * 63 + [255]], *value), [0])
        self.assertEqual(first(4, [[1] * 63 + [0]], *value), [-1])

    def test_1025_numbers(self):
        self.assertEqual(first(4, [[255]], *[1] * 1024, 0), [-3])

    def test_2048_numbers(self):
        self.assertEqual(first(4, [[255]], *[1] * 2047, 0), [-3])

    def test_no_room_goes_before_not_there(self):
        for number in (0, 1, 254, 255):
            for count in (1025, 1026, 2048):
                self.assertEqual(first(4, [[255]], *[number] * count), [-3])
            self.assertEqual(first(4, [[255]], *[number] * 1024), [-2])
            self.assertEqual(first(2, [], *[number] * 1025), [-3])

    def test_a_list_of_many(self):
        value = [1, 2] * 511 + [0]
        self.assertEqual(first(0, [[1, 255, 0], [1, 2, 255]], *value), [1])
        self.assertEqual(first(0, [[1, 2] * 30 + [1, 1, 255], [255]], *value), [1])

    def test_behind_a_long_part(self):
        kinds = [[[1, 2]], [[], [1]], [[], []]]
        value = [0] + [1] * 1021 + [0]
        clauses = [[0, 255, 0], [0, 255, 1]]
        self.assertEqual(told_of(kinds, 0, clauses, which(*value, 0), which(*value, 1)), [[0], [1]])
        self.assertEqual(told_of(kinds, 0, clauses, which(*value, 2), which(*value)), [[-2], [-2]])

    def test_deep_ones_are_gone_through_by_loops(self):
        deep = [1] * 1023 + [0]
        wide = [1] * 255 + [0] * 766
        kinds = [[[], [0]], [[], [1, 1, 1, 1]]]
        limit = sys.getrecursionlimit()
        for t, value in ((0, deep), (1, wide)):
            calls = joined(matching(kinds, t, [[0], [255]]) + [which(*value)])
            sys.setrecursionlimit(nested_calls() + 40)
            try:
                told = answers(calls)
            finally:
                sys.setrecursionlimit(limit)
            self.assertEqual(split_answers(told)[-1], [1])


class AgainstTheWords(unittest.TestCase):
    def test_the_first_that_fits(self):
        # A fixed seed: the same kinds, clauses and values each time.
        draw = random.Random(8)
        fitting = 0
        for turn in range(500):
            kinds, t, clauses = some_match(draw)
            values = some_values(draw, kinds, t, clauses, 20)
            expected = [[first_by_the_words(kinds, t, clauses, value)] for value in values]
            told = told_of(kinds, t, clauses, *[which(*flat(value)) for value in values])
            self.assertEqual(told, expected, (kinds, t, clauses, values))
            fitting += sum(answer[0] > 0 for answer in told)
        self.assertGreater(fitting, 1000)

    def test_a_value_with_one_number_other_than_it_was(self):
        draw = random.Random(9)
        refused = 0
        for turn in range(300):
            kinds, t, clauses = some_match(draw)
            for value in some_values(draw, kinds, t, clauses, 5):
                numbers = flat(value)
                place = draw.randrange(len(numbers))
                longer = numbers[:place] + [draw.choice([0, 1, 2, 3, 255])] + numbers[place:]
                shorter = numbers[:place] + numbers[place + 1:]
                other = numbers[:place] + [draw.choice([4, 15, 16, 254, 255])] + numbers[place + 1:]
                told = told_of(kinds, t, clauses, which(*longer), which(*shorter), which(*other))
                expected = [self.by_the_words(kinds, t, clauses, row) for row in (longer, shorter, other)]
                self.assertEqual(told, expected)
                refused += told.count([-2])
        self.assertGreater(refused, 1000)

    def by_the_words(self, kinds, t, clauses, numbers):
        left = list(numbers)

        def read(t):
            number = left.pop(0)
            return (number, [read(field) for field in kinds[t][number]])

        try:
            value = read(t)
        except IndexError:
            return [-2]
        return [-2] if left else [first_by_the_words(kinds, t, clauses, value)]


if __name__ == "__main__":
    unittest.main()
