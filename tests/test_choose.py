"""Call 9 and P3: the clause that is chosen by asking, constructor by constructor."""

import random
import unittest

from support import (
    chosen_by_the_words, choose, clause, con, drop, first_by_the_words, flat, kind, kind_at, last, makes, missing,
    part_at, some_match, some_values, told_of, which,
)

BOOL = [[], []]
# 0: a list of 1; 1: two words.
LIST = [[[], [1, 0]], BOOL]


def chosen(kinds, clauses, *constructors):
    return told_of(kinds, 0, clauses, choose(*constructors))[0]


class ChooseCall(unittest.TestCase):
    def test_none_without_a_match(self):
        for constructors in ([], [0], [255], [0] * 256):
            self.assertEqual(last(choose(*constructors)), [-4])
            self.assertEqual(last(kind(), con(0), choose(*constructors)), [-4])

    def test_nothing_fits_where_there_are_no_clauses(self):
        self.assertEqual(chosen(LIST, []), [3])
        self.assertEqual(chosen([[]], []), [3])

    def test_the_root_is_asked_for_first(self):
        for pattern in ([0], [1, 255, 255], [1, 0, 0]):
            self.assertEqual(chosen(LIST, [pattern]), [1])
            self.assertEqual(chosen(LIST, [pattern, [255]]), [1])

    def test_a_clause_of_anything_is_chosen_at_once(self):
        self.assertEqual(chosen(LIST, [[255]]), [2, 0])
        self.assertEqual(chosen(LIST, [[255], [0], [255]]), [2, 0])
        self.assertEqual(chosen([[]], [[255]]), [2, 0])

    def test_a_clause(self):
        self.assertEqual(chosen(LIST, [[0], [1, 255, 255]], 0), [2, 0])
        self.assertEqual(chosen(LIST, [[0], [1, 255, 255]], 1), [2, 1])
        self.assertEqual(chosen(LIST, [[0], [255]], 1), [2, 1])
        self.assertEqual(chosen(LIST, [[0], [0], [255]], 0), [2, 0])

    def test_nothing_fits(self):
        self.assertEqual(chosen(LIST, [[0]], 1), [3])
        self.assertEqual(chosen(LIST, [[1, 0, 255], [1, 255, 0]], 0), [3])
        self.assertEqual(chosen(LIST, [[1, 0, 255], [1, 1, 0]], 1, 1, 1), [3])

    def test_the_last_of_32(self):
        self.assertEqual(told_of(LIST, 1, [[0]] * 31 + [[1]], choose(1), choose(0)), [[2, 31], [2, 0]])

    def test_the_last_of_16_constructors(self):
        kinds = [[[]] * 16]
        self.assertEqual(chosen(kinds, [[15]], 15), [2, 0])
        self.assertEqual(chosen(kinds, [[15]], 14), [3])
        self.assertEqual(chosen(kinds, [[15]], 16), [-2])

    def test_it_changes_nothing(self):
        told = told_of(LIST, 0, [[0]], choose(0), choose(), choose(1), choose(2), choose(0, 0), choose(0), missing(),
                       clause(255), choose(1), which(1, 0, 0))
        self.assertEqual(told, [[2, 0], [1], [3], [-2], [-2], [2, 0], [3, 1, 255, 255], [1], [2, 1], [1]])


class Positions(unittest.TestCase):
    def test_below_the_root(self):
        self.assertEqual(chosen(LIST, [[1, 0, 255]], 1), [1, 0])
        self.assertEqual(chosen(LIST, [[1, 255, 0]], 1), [1, 1])

    def test_in_the_order_of_the_clauses_numbers(self):
        kinds = [[[0, 1, 0, 1], []], BOOL]
        pattern = [0, 0, 1, 0, 1, 1, 1, 255, 0]
        ways = [[], [0], [0, 0], [0, 1], [0, 2], [0, 3], [1], [3]]
        given = [0, 0, 1, 0, 1, 1, 1, 0]
        for count, way in enumerate(ways):
            self.assertEqual(chosen(kinds, [pattern], *given[:count]), [1, *way])
        self.assertEqual(chosen(kinds, [pattern], *given), [2, 0])

    def test_deep_ones(self):
        kinds = [[[], [0]]]
        for count in range(1, 64):
            self.assertEqual(chosen(kinds, [[1] * 63 + [0]], *[1] * count), [1] + [0] * count)
        self.assertEqual(chosen(kinds, [[1] * 63 + [0]], *[1] * 63, 0), [2, 0])
        self.assertEqual(chosen(kinds, [[1] * 63 + [0]], *[1] * 64), [3])
        self.assertEqual(chosen(kinds, [[1] * 63 + [0]], *[1] * 62, 0), [3])

    def test_in_the_last_field(self):
        kinds = [[[0, 0, 0, 0], []]]
        clauses = [[0, 255, 255, 255, 0, 255, 255, 255, 1]]
        self.assertEqual(chosen(kinds, clauses, 0), [1, 3])
        self.assertEqual(chosen(kinds, clauses, 0, 0), [1, 3, 3])

    def test_what_was_asked_for_is_not_asked_again(self):
        clauses = [[1, 0, 0], [1, 1, 1, 255, 255], [1, 255, 0]]
        self.assertEqual(chosen(LIST, clauses, 1, 0), [1, 1])
        self.assertEqual(chosen(LIST, clauses, 1, 1), [1, 1])
        self.assertEqual(chosen(LIST, clauses, 1, 1, 0), [2, 2])
        self.assertEqual(chosen(LIST, clauses, 1, 1, 1), [2, 1])
        self.assertEqual(chosen(LIST, clauses, 1, 0, 1), [3])

    def test_answers_rule_clauses_out(self):
        kinds = [[[1, 1, 1]], BOOL]
        clauses = [[0, 0, 255, 0], [0, 1, 1, 255], [0, 255, 0, 1], [0, 0, 0, 255]]
        self.assertEqual(chosen(kinds, clauses, 0), [1, 0])
        self.assertEqual(chosen(kinds, clauses, 0, 0), [1, 2])
        self.assertEqual(chosen(kinds, clauses, 0, 0, 0), [2, 0])
        self.assertEqual(chosen(kinds, clauses, 0, 0, 1), [1, 1])
        self.assertEqual(chosen(kinds, clauses, 0, 0, 1, 0), [2, 2])
        self.assertEqual(chosen(kinds, clauses, 0, 0, 1, 1), [3])
        self.assertEqual(chosen(kinds, clauses, 0, 1), [1, 1])
        self.assertEqual(chosen(kinds, clauses, 0, 1, 1), [2, 1])
        self.assertEqual(chosen(kinds, clauses, 0, 1, 0), [1, 2])
        self.assertEqual(chosen(kinds, clauses, 0, 1, 0, 1), [2, 2])
        self.assertEqual(chosen(kinds, clauses, 0, 1, 0, 0), [3])

    def test_255_above_a_position_rules_nothing_out(self):
        clauses = [[1, 255, 1, 0, 255], [1, 255, 255], [255]]
        self.assertEqual(chosen(LIST, clauses, 1), [1, 1])
        self.assertEqual(chosen(LIST, clauses, 1, 1), [1, 1, 0])
        self.assertEqual(chosen(LIST, clauses, 1, 1, 1), [2, 1])
        self.assertEqual(chosen(LIST, clauses, 0), [2, 2])

    def test_a_useless_clause_is_asked_for_too(self):
        kinds = [[[1], [], []], []]
        self.assertEqual(chosen(kinds, [[0, 255]]), [1])
        self.assertEqual(chosen(kinds, [[0, 255]], 1), [3])
        self.assertEqual(chosen([[[0]]], [[0, 255]]), [1])


class WrongAnswers(unittest.TestCase):
    def test_no_constructor_of_the_kind(self):
        for number in (2, 3, 16, 254, 255):
            self.assertEqual(chosen(LIST, [[0]], number), [-2])
            self.assertEqual(chosen(LIST, [[1, 0, 0]], 1, number), [-2])
            self.assertEqual(chosen(LIST, [[1, 0, 0]], 1, 0, number), [-2])

    def test_the_kind_is_that_at_the_position(self):
        kinds = [[[1, 2, 0], []], [[], [], []], [[]]]
        clauses = [[0, 1, 0, 1]]
        self.assertEqual(chosen(kinds, clauses, 2), [-2])
        self.assertEqual(chosen(kinds, clauses, 0, 2), [3])
        self.assertEqual(chosen(kinds, clauses, 0, 3), [-2])
        self.assertEqual(chosen(kinds, clauses, 0, 1, 1), [-2])
        self.assertEqual(chosen(kinds, clauses, 0, 1, 0), [1, 2])
        self.assertEqual(chosen(kinds, clauses, 0, 1, 0, 2), [-2])

    def test_a_constructor_that_makes_no_value(self):
        kinds = [[[1], [], [0]], []]
        self.assertEqual(chosen(kinds, [[0, 255]], 0), [-2])
        self.assertEqual(chosen(kinds, [[1], [0, 255]], 0), [-2])
        self.assertEqual(chosen(kinds, [[2, 0, 255]], 2), [1, 0])
        self.assertEqual(chosen(kinds, [[2, 0, 255]], 2, 0), [-2])
        self.assertEqual(chosen(kinds, [[2, 0, 255]], 2, 2), [3])
        self.assertEqual(chosen([[[0]]], [[0, 255]], 0), [-2])

    def test_an_answer_more_than_there_are_questions(self):
        self.assertEqual(chosen(LIST, [], 0), [-2])
        self.assertEqual(chosen(LIST, [[255]], 0), [-2])
        self.assertEqual(chosen(LIST, [[0]], 0, 0), [-2])
        self.assertEqual(chosen(LIST, [[0]], 1, 0), [-2])
        self.assertEqual(chosen(LIST, [[1, 0, 255]], 1, 0, 0), [-2])
        self.assertEqual(chosen(LIST, [[1, 0, 255]], 1, 1, 1), [-2])

    def test_a_wrong_one_before_right_ones(self):
        self.assertEqual(chosen(LIST, [[1, 0, 0]], 2, 0, 0), [-2])
        self.assertEqual(chosen(LIST, [[1, 0, 0]], 1, 2, 0), [-2])

    def test_256_answers(self):
        kinds = [[[], [0]]]
        for number in (0, 1, 255):
            self.assertEqual(chosen(kinds, [[1] * 63 + [0]], *[number] * 256), [-2])
            self.assertEqual(chosen(kinds, [], *[number] * 256), [-2])


class AgainstTheWords(unittest.TestCase):
    def setUp(self):
        # A fixed seed: the same kinds, clauses and values each time.
        self.draw = random.Random(9)

    def asked_by(self, kinds, t, clauses, value):
        """The last answer to one who answers by a value, and how many questions there were."""
        answered = {}
        while True:
            turn = told_of(kinds, t, clauses, choose(*answered.values()))[0]
            if turn[0] != 1:
                return turn, len(answered)
            way = tuple(turn[1:])
            self.assertNotIn(way, answered)
            answered[way] = part_at(value, way)[0]

    def test_whoever_answers_by_a_value_is_told_its_first_clause(self):
        questions = 0
        for turn in range(300):
            kinds, t, clauses = some_match(self.draw)
            for value in some_values(self.draw, kinds, t, clauses, 5):
                first = first_by_the_words(kinds, t, clauses, value)
                found, asked = self.asked_by(kinds, t, clauses, value)
                self.assertEqual(found, [3] if first == -1 else [2, first], (kinds, t, clauses, value))
                self.assertEqual(told_of(kinds, t, clauses, which(*flat(value))), [[first]])
                questions += asked
        self.assertGreater(questions, 1000)

    def test_the_same_as_the_words(self):
        seen = {1: 0, 2: 0, 3: 0, -2: 0}
        for turn in range(600):
            kinds, t, clauses = some_match(self.draw)
            rows = [self.some_answers(kinds, t, clauses) for again in range(6)]
            told = told_of(kinds, t, clauses, *[choose(*row) for row in rows])
            for row, answer in zip(rows, told):
                self.assertEqual(answer, chosen_by_the_words(kinds, t, clauses, row), (kinds, t, clauses, row))
                seen[answer[0]] += 1
        self.assertGreater(min(seen.values()), 100)

    def some_answers(self, kinds, t, clauses):
        """Answers to the questions, now and then a wrong one or one too many."""
        given = []
        answered = {}
        while self.draw.random() < 0.85:
            turn = chosen_by_the_words(kinds, t, clauses, given)
            known = []
            if turn[0] == 1:
                fields = kinds[kind_at(kinds, t, tuple(turn[1:]), answered)]
                known = [c for c in range(len(fields)) if makes(kinds, fields[c])]
            if not known or self.draw.random() < 0.03:
                return given if self.draw.random() < 0.7 else given + [self.draw.randrange(6)]
            given.append(self.draw.choice(known))
            answered[tuple(turn[1:])] = given[-1]
        return given

    def test_clauses_that_are_dropped_are_not_asked_for(self):
        for turn in range(200):
            kinds, t, clauses = some_match(self.draw)
            if clauses:
                i = self.draw.randrange(len(clauses))
                left = clauses[:i] + clauses[i + 1:]
                row = self.some_answers(kinds, t, left)
                told = told_of(kinds, t, clauses, drop(i), choose(*row))
                self.assertEqual(told[1], chosen_by_the_words(kinds, t, left, row), (kinds, t, clauses, i, row))


if __name__ == "__main__":
    unittest.main()
