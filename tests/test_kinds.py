"""Calls 1 to 3: kinds, constructors, and which kinds have a value."""

import unittest

from support import FURTHEST, ask, begin, con, declared, has_value, kind, last


class TypeCall(unittest.TestCase):
    def test_numbers_rise_from_0(self):
        self.assertEqual(ask(kind(), kind(), kind()), [[0], [1], [2]])

    def test_16_and_no_more(self):
        told = ask(*[kind()] * 18)
        self.assertEqual(told, [[t] for t in range(16)] + [[-3], [-3]])

    def test_a_new_one_has_no_constructors(self):
        self.assertEqual(ask(kind(), has_value(0), con(0)), [[0], [0], [0]])

    def test_not_while_a_match_is_on(self):
        self.assertEqual(ask(kind(), begin(0), kind()), [[0], [0], [-4]])

    def test_not_now_goes_before_no_room(self):
        self.assertEqual(last(*[kind()] * 16, begin(0), kind()), [-4])


class ConCall(unittest.TestCase):
    def test_numbers_rise_from_0_for_each_kind(self):
        told = ask(kind(), kind(), con(0), con(0), con(1), con(0), con(1))
        self.assertEqual(told[2:], [[0], [1], [0], [2], [1]])

    def test_0_to_4_fields(self):
        told = ask(kind(), *[con(0, *[0] * count) for count in range(5)])
        self.assertEqual(told[1:], [[0], [1], [2], [3], [4]])

    def test_more_than_4_fields(self):
        for count in (5, 6, 63, 64):
            self.assertEqual(last(kind(), con(0, *[0] * count)), [-2])

    def test_16_and_no_more(self):
        told = ask(kind(), kind(), *[con(0)] * 18, con(1))
        self.assertEqual(told[2:], [[c] for c in range(16)] + [[-3], [-3], [0]])

    def test_there_is_no_such_kind(self):
        self.assertEqual(last(con(0)), [-2])
        for t in (1, 16, 255, 256, FURTHEST):
            self.assertEqual(last(kind(), con(t)), [-2])

    def test_a_field_of_its_own_kind(self):
        self.assertEqual(ask(kind(), con(0, 0)), [[0], [0]])

    def test_a_field_of_no_kind(self):
        for field in (1, 2, 255, FURTHEST):
            for fields in ([field], [0, field], [0, 0, 0, field], [field, 0]):
                self.assertEqual(last(kind(), con(0, *fields)), [-2])

    def test_a_field_of_a_kind_that_comes_later(self):
        told = ask(kind(), con(0, 1), kind(), con(0, 1))
        self.assertEqual(told, [[0], [-2], [1], [0]])

    def test_not_while_a_match_is_on(self):
        self.assertEqual(ask(kind(), begin(0), con(0)), [[0], [0], [-4]])

    def test_not_now_goes_before_all_else(self):
        full = [kind()] + [con(0)] * 16 + [begin(0)]
        for wrong in (con(0), con(1), con(0, 1), con(0, 0, 0, 0, 0, 0)):
            self.assertEqual(last(*full, wrong), [-4])

    def test_not_there_goes_before_no_room(self):
        full = [kind()] + [con(0)] * 16
        for wrong in (con(0, 1), con(0, 0, 0, 0, 0, 0), con(1), con(0, FURTHEST)):
            self.assertEqual(last(*full, wrong), [-2])
        self.assertEqual(last(*full, con(0, 0)), [-3])

    def test_a_refused_one_is_not_there(self):
        told = ask(kind(), kind(), con(0, 2), con(0, 1, 1, 1, 1, 1), con(2), con(0, 1), has_value(0), con(0))
        self.assertEqual(told[2:], [[-2], [-2], [-2], [0], [0], [1]])


class HasValueCall(unittest.TestCase):
    def has(self, kinds):
        told = ask(*declared(kinds), *[has_value(t) for t in range(len(kinds))])
        return [answer[0] for answer in told[-len(kinds):]]

    def test_without_constructors(self):
        self.assertEqual(self.has([[]]), [0])

    def test_with_a_constructor_without_fields(self):
        self.assertEqual(self.has([[[]]]), [1])

    def test_of_itself_alone(self):
        self.assertEqual(self.has([[[0]]]), [0])
        self.assertEqual(self.has([[[0, 0], [0]]]), [0])

    def test_of_itself_and_an_end(self):
        self.assertEqual(self.has([[[0], []]]), [1])

    def test_of_one_another(self):
        self.assertEqual(self.has([[[1]], [[0]]]), [0, 0])
        self.assertEqual(self.has([[[1]], [[0], []]]), [1, 1])
        self.assertEqual(self.has([[[1]], [[2]], [[0]], [[0, 3], []]]), [0, 0, 0, 1])

    def test_every_field_needs_a_value(self):
        self.assertEqual(self.has([[[1, 1, 1, 2]], [[]], []]), [0, 1, 0])
        self.assertEqual(self.has([[[1, 1, 1, 1]], [[]], []]), [1, 1, 0])

    def test_one_constructor_that_makes_a_value_is_enough(self):
        self.assertEqual(self.has([[[1], [0], [2]], [], [[]]]), [1, 0, 1])

    def test_through_16_kinds_in_either_order(self):
        up = [[[t + 1]] for t in range(15)]
        down = [[[t]] for t in range(15)]
        self.assertEqual(self.has(up + [[[]]]), [1] * 16)
        self.assertEqual(self.has(up + [[]]), [0] * 16)
        self.assertEqual(self.has([[[]]] + down), [1] * 16)
        self.assertEqual(self.has([[]] + down), [0] * 16)
        self.assertEqual(self.has(up + [[[0]]]), [0] * 16)

    def test_it_has_one_from_when_a_constructor_makes_it(self):
        told = ask(kind(), kind(), con(0, 1), has_value(0), con(1), has_value(0), has_value(1))
        self.assertEqual(told[3:], [[0], [0], [1], [1]])

    def test_while_a_match_is_on(self):
        told = ask(kind(), kind(), con(0), begin(1), has_value(0), has_value(1), has_value(2))
        self.assertEqual(told[4:], [[1], [0], [-2]])

    def test_there_is_no_such_kind(self):
        self.assertEqual(last(has_value(0)), [-2])
        for t in (1, 16, 255, FURTHEST):
            self.assertEqual(last(kind(), con(0), has_value(t)), [-2])


if __name__ == "__main__":
    unittest.main()
