"""What's shown of some rows and an asked row: the words that missing stands on."""

import random
import unittest
from unittest import mock

from matchclauses import showing
from support import ANYTHING, flat, missing_of, nested, shown_row, some_clauses, some_kinds, some_pattern

BOOL = [[], []]


def shown(kinds, t, rows, asked):
    tupled = [[tuple(fields) for fields in constructors] for constructors in kinds]
    found = showing.shown_pattern(tupled, t, [tuple(row) for row in rows], tuple(asked))
    return None if found is None else list(found)


def shown_by_the_words(kinds, t, rows, asked):
    found = shown_row(kinds, [t], [[nested(kinds, t, row)] for row in rows], [nested(kinds, t, asked)])
    return None if found is None else flat(found[0])


class AskedRow(unittest.TestCase):
    def test_without_rows_it_is_itself(self):
        kinds = [[[0, 1], []], BOOL]
        for asked in ([255], [1], [0, 255, 255], [0, 0, 1, 255, 1], [0, 255, 0]):
            self.assertEqual(shown(kinds, 0, [], asked), asked)

    def test_a_constructor_that_makes_no_value(self):
        kinds = [[[1], [], [2]], [], [[2]]]
        self.assertIsNone(shown(kinds, 0, [], [0, 255]))
        self.assertIsNone(shown(kinds, 0, [[1]], [2, 255]))
        self.assertIsNone(shown(kinds, 0, [[1]], [2, 0, 255]))
        self.assertEqual(shown(kinds, 0, [[0, 255]], [1]), [1])

    def test_rows_that_begin_otherwise_are_not_kept(self):
        kinds = [[[1], [1]], BOOL]
        self.assertEqual(shown(kinds, 0, [[0, 255]], [1, 255]), [1, 255])
        self.assertEqual(shown(kinds, 0, [[0, 255], [1, 0]], [1, 255]), [1, 1])
        self.assertIsNone(shown(kinds, 0, [[0, 255], [1, 0]], [1, 0]))

    def test_255_stands_for_each_field(self):
        kinds = [[[1, 1], []], BOOL]
        self.assertIsNone(shown(kinds, 0, [[255]], [0, 1, 255]))
        self.assertIsNone(shown(kinds, 0, [[0, 255, 1], [0, 1, 255]], [0, 1, 1]))

    def test_it_is_narrowed_where_it_is_255(self):
        kinds = [[[1, 1, 1]], BOOL]
        self.assertEqual(shown(kinds, 0, [[0, 0, 255, 1]], [0, 255, 1, 1]), [0, 1, 1, 1])
        self.assertEqual(shown(kinds, 0, [[0, 255, 0, 255]], [0, 255, 255, 1]), [0, 255, 1, 1])

    def test_the_same_pattern_as_the_words_find(self):
        # A fixed seed: the same kinds and rows each time.
        draw = random.Random(7)
        seen = 0
        for turn in range(4000):
            kinds = some_kinds(draw)
            t = draw.randrange(len(kinds))
            rows = some_clauses(draw, kinds, t)
            asked = some_pattern(draw, kinds, t, 3)
            found = shown(kinds, t, rows, asked)
            self.assertEqual(found, shown_by_the_words(kinds, t, rows, asked), (kinds, t, rows, asked))
            seen += found is not None and asked != [ANYTHING]
        self.assertGreater(seen, 200)


class Long(unittest.TestCase):
    """The words, followed without saving, would go through these for hours or many thousand steps."""

    def steps(self, kinds, rows):
        with mock.patch.object(showing, "steps_behind", wraps=showing.steps_behind) as behind:
            self.assertIsNone(missing_of(kinds, 0, rows))
        return behind.call_count

    def test_16_constructors_in_each_of_7_places(self):
        kinds = [[[1, 1, 1, 2]], [[]] * 16, [[1, 1, 1, 1]]]
        rows = [[0] + [255] * place + [15] + [255] * (3 - place) for place in range(3)]
        rows += [[0, 255, 255, 255, 0] + [255] * place + [15] + [255] * (3 - place) for place in range(4)]
        self.assertEqual(missing_of(kinds, 0, rows), [0, 0, 0, 0, 0, 0, 0, 0, 0])
        self.assertLess(self.steps(kinds, rows + [[255]]), 1000)

    def test_places_that_many_choices_come_to(self):
        kinds = [[[1, 3, 3, 0], [], []], [[0, 3, 0, 3], []], [[0, 2], [], [2], []],
                 [[2, 0, 3, 1], [3, 2, 1, 1], [], []]]
        rows = [[0, 255, 255, 255, 0, 1, 1, 2, 0, 2, 0, 1, 1, 255, 255, 255, 255],
                [0, 255, 1, 1, 255, 2, 255, 1, 1, 3, 255, 255, 255, 255],
                [0, 0, 255, 1, 0, 255, 1, 255, 255, 1, 1, 1, 255, 255, 2, 3, 2],
                [0, 255, 255, 0, 255, 0, 1, 255, 3, 2, 2, 255, 255], [2], [255]]
        self.assertLess(self.steps(kinds, rows), 1000)

    def test_constructors_that_no_row_begins_with(self):
        others = [[1 + c % 4, 1 + c // 4, 0, 1] for c in range(14)]
        kinds = [[[0, 0, 0, 0], []] + others] + [[[]] for t in range(4)]
        rows = [[0, 1, 255, 255, 255], [0, 255, 1, 255, 255], [0, 255, 255, 1, 255], [0, 255, 255, 255, 1], [255]]
        self.assertLess(self.steps(kinds, rows), 100)


if __name__ == "__main__":
    unittest.main()
