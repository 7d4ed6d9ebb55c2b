"""Calls 4 and 5: a match and its clauses."""

import unittest

from support import ANYTHING, FURTHEST, ask, begin, clause, con, declared, has_value, kind, last, missing

# 0: a list of 1; 1: three words; 2: no value; 3: four fields, one of its own kind.
KINDS = [[[], [1, 0]], [[], [], []], [], [[1, 0, 3, 2], [1, 1], []]]


def on(t, *calls):
    told = ask(*declared(KINDS), begin(t), *calls)
    return told[-len(calls):]


class BeginCall(unittest.TestCase):
    def test_answers_0(self):
        self.assertEqual(last(kind(), begin(0)), [0])
        self.assertEqual(last(kind(), kind(), con(1), begin(1)), [0])

    def test_on_the_last_of_16(self):
        self.assertEqual(last(*[kind()] * 16, begin(15)), [0])
        self.assertEqual(last(*[kind()] * 16, begin(16)), [-2])

    def test_there_is_no_such_kind(self):
        self.assertEqual(last(begin(0)), [-2])
        for t in (1, 255, FURTHEST):
            self.assertEqual(last(kind(), begin(t)), [-2])

    def test_a_refused_one_is_not_on(self):
        told = ask(begin(0), kind(), begin(1), con(0), clause(ANYTHING), missing(), begin(0))
        self.assertEqual(told, [[-2], [0], [-2], [0], [-4], [-4], [0]])

    def test_not_while_a_match_is_on(self):
        self.assertEqual(on(0, begin(0), begin(1)), [[-4], [-4]])

    def test_not_now_goes_before_not_there(self):
        self.assertEqual(on(0, begin(4), begin(FURTHEST)), [[-4], [-4]])

    def test_a_refused_one_leaves_the_match(self):
        told = on(1, clause(0), begin(0), clause(2), missing())
        self.assertEqual(told, [[0], [-4], [1], [1, 1]])

    def test_it_has_no_clauses(self):
        self.assertEqual(on(1, missing(), clause(0)), [[1, ANYTHING], [0]])


class ClauseCall(unittest.TestCase):
    def accepts(self, t, *pattern):
        self.assertEqual(on(t, clause(*pattern)), [[0]], pattern)

    def refuses(self, t, *pattern):
        self.assertEqual(on(t, clause(*pattern)), [[-2]], pattern)

    def test_numbers_rise_from_0(self):
        self.assertEqual(on(1, clause(0), clause(1), clause(0), clause(255)), [[0], [1], [2], [3]])

    def test_patterns(self):
        for pattern in ([255], [0], [1, 255, 255], [1, 2, 0], [1, 255, 1, 0, 255], [1, 0, 1, 1, 1, 2, 0]):
            self.accepts(0, *pattern)
        for pattern in ([2], [1, 0, 255], [0, 0, 1, 2, 0, 2, 255], [0, 255, 255, 0, 1, 0, 2, 255, 255]):
            self.accepts(3, *pattern)

    def test_of_a_kind_without_constructors(self):
        self.accepts(2, 255)
        for number in (0, 1, 254):
            self.refuses(2, number)

    def test_of_a_constructor_that_makes_no_value(self):
        self.accepts(3, 0, 0, 0, 2, 255)

    def test_too_short(self):
        for pattern in ([1], [1, 255], [1, 0], [1, 0, 1], [1, 0, 1, 255]):
            self.refuses(0, *pattern)
        self.refuses(3, 0, 255, 255, 255)

    def test_too_long(self):
        for pattern in ([255, 255], [0, 0], [0, 255], [1, 255, 255, 255], [1, 0, 0, 0], [1, 0, 1, 0, 0, 0]):
            self.refuses(0, *pattern)

    def test_empty(self):
        for t in range(4):
            self.refuses(t)

    def test_a_number_that_is_no_constructor(self):
        for pattern in ([2], [16], [254], [1, 3, 0], [1, 0, 2], [1, 254, 0], [1, 0, 1, 3, 0]):
            self.refuses(0, *pattern)

    def test_a_constructor_of_another_kind(self):
        self.accepts(1, 2)
        self.refuses(0, 2)
        self.refuses(0, 1, 0, 2)

    def test_the_last_of_16_constructors(self):
        calls = [kind(), *[con(0)] * 16, begin(0)]
        self.assertEqual(ask(*calls, clause(15), clause(16))[-2:], [[0], [-2]])

    def test_none_without_a_match(self):
        for pattern in ([255], [], [0], [255] * 512):
            self.assertEqual(last(clause(*pattern)), [-4])
            self.assertEqual(last(*declared(KINDS), clause(*pattern)), [-4])

    def test_32_and_no_more(self):
        told = on(1, *[clause(n % 3) for n in range(34)])
        self.assertEqual(told, [[i] for i in range(32)] + [[-3], [-3]])

    def test_64_numbers_and_no_more(self):
        calls = [clause(*[1, 255] * 10, 255)] * 3 + [clause(1, 0, 255), clause(255), clause(0)]
        self.assertEqual(on(0, *calls), [[0], [1], [2], [-3], [3], [-3]])

    def test_64_numbers_of_one_clause(self):
        calls = [kind(), con(0, 0), con(0), begin(0)]
        self.assertEqual(ask(*calls, clause(*[0] * 63, 1), clause(1))[-2:], [[0], [-3]])
        self.assertEqual(ask(*calls, clause(*[0] * 64, 1), clause(1))[-2:], [[-3], [0]])

    def test_512_numbers(self):
        for number in (0, 1, 254, 255):
            self.assertEqual(on(0, clause(*[number] * 512), clause(0)), [[-3], [0]])

    def test_no_room_goes_before_not_there(self):
        thirty_two = [clause(0)] * 32
        for wrong in ([], [3], [0, 0], [255] * 512, [255]):
            self.assertEqual(on(1, *thirty_two, clause(*wrong))[-1], [-3], wrong)
        self.assertEqual(on(1, clause(*[0] * 64))[-1], [-2])
        self.assertEqual(on(1, clause(*[0] * 65))[-1], [-3])
        self.assertEqual(on(1, clause(0), clause(*[7] * 63), clause(*[7] * 64))[1:], [[-2], [-3]])

    def test_an_empty_row_beside_64_numbers(self):
        told = ask(kind(), con(0, 0), con(0), begin(0), clause(*[0] * 63, 255), clause())
        self.assertEqual(told[-1], [-2])

    def test_a_refused_one_counts_for_nothing(self):
        refused = [clause(), clause(3), clause(0, 0), clause(*[9] * 60), clause(*[0] * 512)]
        told = on(1, clause(0), *refused, clause(1), *refused, missing())
        self.assertEqual(told[0], [0])
        self.assertEqual(told[6], [1])
        self.assertEqual(told[-1], [1, 2])
        self.assertEqual(told[1:6], [[-2], [-2], [-2], [-2], [-3]])

    def test_refused_for_numbers_a_shorter_one_still_has_room(self):
        told = on(0, clause(*[1, 255] * 30, 255), clause(1, 255, 1, 0, 255), clause(1, 255, 255), clause(255))
        self.assertEqual(told, [[0], [-3], [1], [-3]])

    def test_other_calls_are_as_before(self):
        told = on(0, clause(255), has_value(0), has_value(2), kind(), con(0), begin(0), clause(0))
        self.assertEqual(told, [[0], [1], [0], [-4], [-4], [-4], [1]])


if __name__ == "__main__":
    unittest.main()
