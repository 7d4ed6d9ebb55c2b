"""The interface, the opening words on the calls, and P5: what's refused changes nothing."""

import contextlib
import io
import random
import sys
import unittest

from matchclauses.desk import UnknownCall, answers
from support import FURTHEST, ask, begin, clause, con, has_value, joined, kind, missing, split_answers

EVERY_CALL = [1, 1, 2, 0, 0, 2, 0, 2, 1, 0, 2, 1, 0, 3, 0, 4, 0, 5, 1, 0, 6, 5, 3, 1, 255, 0, 6, 1, 5, 0]
TOLD = [1, 0, 1, 1, 1, 0, 1, 1, 1, 0, 1, 1, 1, 0, 1, 0, 4, 3, 1, 255, 255, 1, 1, 6, 5, 1, 255, 1, 255, 255, 1, -4, 1, -2]


class Unchanging(list):
    """A list that fails when it is changed, for a while too."""

    def refuse(self, *args, **kwargs):
        raise AssertionError("what is handed in is changed")

    append = clear = extend = insert = pop = remove = reverse = sort = refuse
    __setitem__ = __delitem__ = __iadd__ = __imul__ = refuse


class Interface(unittest.TestCase):
    def test_calls_and_answers_in_one_list_each(self):
        self.assertEqual(answers(EVERY_CALL), TOLD)

    def test_one_call_alone(self):
        self.assertEqual(answers([1]), [1, 0])
        self.assertEqual(answers([2, 0, 0]), [1, -2])
        self.assertEqual(answers([3, 0]), [1, -2])
        self.assertEqual(answers([4, 0]), [1, -2])
        self.assertEqual(answers([5, 0]), [1, -4])
        self.assertEqual(answers([5, 2, 1, 1]), [1, -4])
        self.assertEqual(answers([6]), [1, -4])

    def test_rows_of_full_length(self):
        self.assertEqual(answers([2, 0, 64] + [1] * 64 + [1]), [1, -2, 1, 0])
        self.assertEqual(answers([2, FURTHEST, 64] + [FURTHEST] * 64 + [1]), [1, -2, 1, 0])
        self.assertEqual(answers([5, 512] + [6] * 512 + [1]), [1, -4, 1, 0])
        self.assertEqual(answers([1, 4, 0, 5, 512] + [6] * 512 + [5, 1, 255]), [1, 0, 1, 0, 1, -3, 1, 0])

    def test_200_calls(self):
        self.assertEqual(answers([6] * 200), [1, -4] * 200)
        long = [1, 4, 0] + ([5, 148] + [255] * 148) * 198
        self.assertEqual(len(long), 29703)
        self.assertEqual(answers(long), [1, 0, 1, 0] + [1, -3] * 198)

    def test_a_list_of_whole_numbers(self):
        told = answers(EVERY_CALL)
        self.assertIs(type(told), list)
        self.assertEqual({type(number) for number in told}, {int})

    def test_what_is_handed_in_is_as_it_was(self):
        calls = list(EVERY_CALL)
        answers(calls)
        self.assertEqual(calls, EVERY_CALL)
        self.assertEqual(answers(Unchanging(EVERY_CALL)), TOLD)

    def test_asked_twice_it_answers_the_same(self):
        first = answers(EVERY_CALL)
        first.clear()
        self.assertEqual(answers(EVERY_CALL), TOLD)
        self.assertEqual(answers([6]), [1, -4])
        self.assertEqual(answers([3, 0]), [1, -2])
        self.assertEqual(answers(EVERY_CALL), TOLD)

    def test_it_prints_and_imports_nothing(self):
        out, err = io.StringIO(), io.StringIO()
        modules = set(sys.modules)
        with contextlib.redirect_stdout(out), contextlib.redirect_stderr(err):
            answers(EVERY_CALL)
        self.assertEqual((out.getvalue(), err.getvalue()), ("", ""))
        self.assertEqual(set(sys.modules), modules)

    def test_a_number_that_is_no_call(self):
        for number in (0, 13, 255):
            with self.assertRaises(UnknownCall):
                answers([1, number])


def some_call(draw):
    t = draw.choice([0, 0, 0, 1, 1, 2, 3, 16, FURTHEST])
    fields = [draw.choice([0, 0, 1, 1, 2, 9]) for field in range(draw.choice([0, 0, 1, 2, 3, 5]))]
    row = [draw.choice([0, 0, 1, 1, 2, 255, 255, 254]) for number in range(draw.choice([0, 1, 1, 1, 2, 3, 3, 30, 65]))]
    calls = [kind()] * 2 + [con(t, *fields)] * 6 + [has_value(t)] * 2 + [clause(*row)] * 6 + [missing()] * 2
    return draw.choice(calls + [begin(t)] * draw.choice([0, 0, 0, 1]))


class Refused(unittest.TestCase):
    def test_it_changes_nothing(self):
        # A fixed seed: the same calls each time.
        draw = random.Random(5)
        seen = {-2: 0, -3: 0, -4: 0}
        for turn in range(400):
            calls = [kind()] * draw.choice([0, 1, 1, 2, 15]) + [con(0)] * draw.choice([0, 1, 15])
            calls += [some_call(draw) for number in range(draw.randint(1, 160))]
            told = ask(*calls)
            for answer in told:
                if answer[0] < 0:
                    self.assertEqual(len(answer), 1)
                    seen[answer[0]] += 1
            taken = [(call, answer) for call, answer in zip(calls, told) if answer[0] >= 0]
            again = split_answers(answers(joined([call for call, answer in taken])))
            self.assertEqual(again, [answer for call, answer in taken])
        self.assertGreater(min(seen.values()), 100)

    def test_the_same_call_is_refused_the_same_way(self):
        told = ask(kind(), con(0), con(1), con(1), begin(1), begin(1), begin(0), begin(0), begin(0),
                   clause(), clause(), clause(0), clause(*[0] * 64), clause(*[0] * 64), clause(255))
        self.assertEqual(told[2:], [[-2], [-2], [-2], [-2], [0], [-4], [-4],
                                    [-2], [-2], [0], [-3], [-3], [1]])


if __name__ == "__main__":
    unittest.main()
