"""The interface, the opening words on the calls, and P5: what's refused changes nothing."""

import contextlib
import io
import random
import sys
import unittest

from matchclauses.desk import UnknownCall, answers
from support import (
    FURTHEST, ask, begin, choose, clause, con, drop, end, has_value, joined, kind, missing, reach, split_answers,
    useless, which,
)

EVERY_CALL = [
    1, 1, 2, 0, 0, 2, 0, 2, 1, 0, 2, 1, 0, 3, 0, 4, 0, 5, 1, 0, 6, 5, 3, 1, 255, 0, 6, 1, 5, 0,
    5, 1, 0, 7, 1, 7, 2, 7, 3, 8, 3, 1, 0, 0, 8, 5, 1, 0, 1, 0, 0, 8, 1, 255, 9, 0, 9, 1, 1, 9, 2, 1, 0, 9, 2, 1, 1,
    9, 1, 2, 10, 11, 0, 11, 2, 10, 9, 0, 12, 12, 4, 1, 9, 0,
]
TOLD = [
    1, 0, 1, 1, 1, 0, 1, 1, 1, 0, 1, 1, 1, 0, 1, 0, 4, 3, 1, 255, 255, 1, 1, 6, 5, 1, 255, 1, 255, 255, 1, -4, 1, -2,
    1, 2, 4, 3, 1, 255, 0, 1, 0, 1, -2, 1, 1, 1, -1, 1, -2, 1, 1, 2, 1, 1, 2, 2, 1, 1, 3,
    1, -2, 2, 1, 2, 1, 2, 1, -2, 1, 0, 1, 1, 1, 0, 1, -4, 1, 0, 1, 3,
]


# Which call may be refused how; which's -1, where a value fits none, stands among them.
REFUSALS = [
    (1, -4), (1, -3), (2, -4), (2, -2), (2, -3), (3, -2), (4, -4), (4, -2), (5, -4), (5, -3), (5, -2), (6, -4),
    (7, -4), (7, -2), (8, -4), (8, -3), (8, -2), (8, -1), (9, -4), (9, -2), (10, -4), (11, -4), (11, -2), (12, -4),
]


class Unchanging(list):
    """A list that fails when it is changed, for a while too."""

    def refuse(self, *args, **kwargs):
        raise AssertionError("what is handed in is changed")

    append = clear = extend = insert = pop = remove = reverse = sort = refuse
    __setitem__ = __delitem__ = __iadd__ = __imul__ = refuse


class Interface(unittest.TestCase):
    def test_calls_and_answers_in_one_list_each(self):
        self.assertEqual(answers(EVERY_CALL), TOLD)

    def test_one_call_alone(self):
        self.assertEqual(answers([1]), [1, 0])
        self.assertEqual(answers([2, 0, 0]), [1, -2])
        self.assertEqual(answers([3, 0]), [1, -2])
        self.assertEqual(answers([4, 0]), [1, -2])
        self.assertEqual(answers([5, 0]), [1, -4])
        self.assertEqual(answers([5, 2, 1, 1]), [1, -4])
        self.assertEqual(answers([6]), [1, -4])
        self.assertEqual(answers([7, 0]), [1, -4])
        self.assertEqual(answers([8, 0]), [1, -4])
        self.assertEqual(answers([8, 2, 1, 1]), [1, -4])
        self.assertEqual(answers([9, 0]), [1, -4])
        self.assertEqual(answers([9, 2, 1, 1]), [1, -4])
        self.assertEqual(answers([10]), [1, -4])
        self.assertEqual(answers([11, 0]), [1, -4])
        self.assertEqual(answers([12]), [1, -4])

    def test_rows_of_full_length(self):
        self.assertEqual(answers([2, 0, 64] + [1] * 64 + [1]), [1, -2, 1, 0])
        self.assertEqual(answers([2, FURTHEST, 64] + [FURTHEST] * 64 + [1]), [1, -2, 1, 0])
        self.assertEqual(answers([5, 512] + [6] * 512 + [1]), [1, -4, 1, 0])
        self.assertEqual(answers([1, 4, 0, 5, 512] + [6] * 512 + [5, 1, 255]), [1, 0, 1, 0, 1, -3, 1, 0])
        self.assertEqual(answers([8, 2048] + [6] * 2048 + [1]), [1, -4, 1, 0])
        self.assertEqual(answers([1, 4, 0, 8, 2048] + [6] * 2048 + [5, 1, 255]), [1, 0, 1, 0, 1, -3, 1, 0])
        self.assertEqual(answers([9, 256] + [6] * 256 + [1]), [1, -4, 1, 0])
        self.assertEqual(answers([1, 4, 0, 9, 256] + [6] * 256 + [5, 1, 255]), [1, 0, 1, 0, 1, -2, 1, 0])

    def test_empty_rows(self):
        self.assertEqual(answers([1, 2, 0, 0, 4, 0, 5, 0, 8, 0, 9, 0, 6]),
                         [1, 0, 1, 0, 1, 0, 1, -2, 1, -2, 1, 3, 2, 1, 255])

    def test_200_calls(self):
        self.assertEqual(answers([6] * 200), [1, -4] * 200)
        long = [1, 4, 0] + ([5, 148] + [255] * 148) * 198
        self.assertEqual(len(long), 29703)
        self.assertEqual(answers(long), [1, 0, 1, 0] + [1, -3] * 198)

    def test_many_long_values(self):
        value = [8, 1024] + [1] * 1023 + [0]
        long = [1, 2, 0, 0, 2, 0, 1, 0, 4, 0, 5, 32] + [1] * 31 + [0] + [5, 1, 255] + value * 29
        self.assertLessEqual(len(long), 30000)
        self.assertEqual(answers(long)[-58:], [1, 1] * 29)

    def test_a_list_of_whole_numbers(self):
        told = answers(EVERY_CALL)
        self.assertIs(type(told), list)
        self.assertEqual({type(number) for number in told}, {int})

    def test_what_is_handed_in_is_as_it_was(self):
        calls = list(EVERY_CALL)
        answers(calls)
        self.assertEqual(calls, EVERY_CALL)
        self.assertEqual(answers(Unchanging(EVERY_CALL)), TOLD)

    def test_asked_twice_it_answers_the_same(self):
        first = answers(EVERY_CALL)
        first.clear()
        self.assertEqual(answers(EVERY_CALL), TOLD)
        self.assertEqual(answers([6]), [1, -4])
        self.assertEqual(answers([3, 0]), [1, -2])
        self.assertEqual(answers(EVERY_CALL), TOLD)

    def test_it_prints_and_imports_nothing(self):
        out, err = io.StringIO(), io.StringIO()
        modules = set(sys.modules)
        with contextlib.redirect_stdout(out), contextlib.redirect_stderr(err):
            answers(EVERY_CALL)
        self.assertEqual((out.getvalue(), err.getvalue()), ("", ""))
        self.assertEqual(set(sys.modules), modules)

    def test_a_number_that_is_no_call(self):
        for number in (0, 13, 255):
            with self.assertRaises(UnknownCall):
                answers([1, number])


def some_call(draw):
    t = draw.choice([0, 0, 0, 1, 1, 2, 3, 16, FURTHEST])
    fields = [draw.choice([0, 0, 1, 1, 2, 9]) for field in range(draw.choice([0, 0, 1, 2, 3, 5]))]
    row = [draw.choice([0, 0, 1, 1, 2, 255, 255, 254]) for number in range(draw.choice([0, 1, 1, 1, 2, 3, 3, 30, 65]))]
    value = row if draw.random() < 0.9 else row + [0] * 1025
    calls = [kind()] * 2 + [con(t, *fields)] * 6 + [has_value(t)] * 2 + [clause(*row)] * 6 + [missing()] * 2
    calls += [reach(t), which(*value), choose(*row), useless(), drop(t)] * 2
    return draw.choice(calls + draw.choice([[], [], [begin(t), end()]]))


class Refused(unittest.TestCase):
    def test_it_changes_nothing(self):
        # A fixed seed: the same calls each time.
        draw = random.Random(5)
        seen = {}
        for turn in range(400):
            calls = [kind()] * draw.choice([0, 1, 1, 2, 15]) + [con(0)] * draw.choice([0, 1, 15])
            calls += [some_call(draw) for number in range(draw.randint(1, 160))]
            told = ask(*calls)
            for call, answer in zip(calls, told):
                if answer[0] < 0:
                    self.assertEqual(len(answer), 1)
                    seen[call[0], answer[0]] = seen.get((call[0], answer[0]), 0) + 1
            taken = [(call, answer) for call, answer in zip(calls, told) if answer[0] >= -1]
            again = split_answers(answers(joined([call for call, answer in taken])))
            self.assertEqual(again, [answer for call, answer in taken])
        self.assertEqual(sorted(seen), sorted(REFUSALS))
        self.assertGreater(min(seen.values()), 10)

    def test_the_same_call_is_refused_the_same_way(self):
        told = ask(kind(), con(0), con(1), con(1), begin(1), begin(1), begin(0), begin(0), begin(0),
                   clause(), clause(), clause(0), clause(*[0] * 64), clause(*[0] * 64), clause(255))
        self.assertEqual(told[2:], [[-2], [-2], [-2], [-2], [0], [-4], [-4],
                                    [-2], [-2], [0], [-3], [-3], [1]])


if __name__ == "__main__":
    unittest.main()
