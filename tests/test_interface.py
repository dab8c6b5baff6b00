"""How calls are handed in, and how answers are given back."""

import contextlib
import io
import unittest

from helper import AND, LARGEST, every, line, one_list, rest, some, swap, told, two

from leastmachines.registers import answers


class Unchanging(list):
    """A list that can't be changed, not for a while either."""

    def refuse(self, *given):
        raise AssertionError("the list that was handed in was changed")

    __setitem__ = __delitem__ = __iadd__ = __imul__ = refuse
    append = extend = insert = pop = remove = clear = sort = reverse = refuse


MIXED = one_list([
    line(0, 1, 7, [1, 2, 0, -1]), rest(1, 5, -3, [0, 4, -4, 1]), two(2, 16, 0, 1), two(2, AND, 0, 1), some(3, 2, 1),
    every(4, 0, 3), swap(5, 1, 0, 2), line(6, 0, 1, []), line(6, 0, 1, [1, 0, 0, 0]), some(16, 0, 0)])


class AnswersTest(unittest.TestCase):
    def test_no_call_at_all(self):
        self.assertEqual(answers([]), [])

    def test_each_answer_has_its_length_before_it(self):
        self.assertEqual(answers(line(0, 0, 5, [1, 0, 0, 0])), [1, 5])
        self.assertEqual(answers(line(0, 0, 5, [])), [1, -1])
        self.assertEqual(answers(line(0, 0, 5, [1, 0, 0, 0]) + rest(1, 2, 0, [0, 1, 0, 0]) + swap(2, 0, 1, 4)), [1, 5, 1, 3, 1, -1])

    def test_calls_as_they_are_written(self):
        self.assertEqual(answers([0, 3, 0, 5, 4, 1, 0, 0, 0]), [1, 5])
        self.assertEqual(answers([1, 3, 7, 5, 4, 1, 0, 0, 0]), [1, 7])
        self.assertEqual(answers([0, 3, 0, 5, 4, 1, 0, 0, 0, 2, 4, 12, 3, 3]), [1, 5, 1, 5])
        self.assertEqual(answers([0, 3, 0, 5, 4, 1, 0, 0, 0, 3, 4, 3, 0]), [1, 5, 1, 1])
        self.assertEqual(answers([0, 3, 0, 5, 4, 1, 0, 0, 0, 4, 4, 3, 1]), [1, 5, 1, 5])
        self.assertEqual(answers([0, 3, 0, 5, 4, 1, 0, 0, 0, 5, 4, 3, 0, 1]), [1, 5, 1, 5])

    def test_lists_of_any_length_are_read_over(self):
        for many in list(range(4)) + [5, 6, 39, 40]:
            for first in (line(0, 0, 0, [LARGEST] * many), rest(0, 1, 0, [-LARGEST] * many)):
                self.assertEqual(answers(first + line(0, 0, 5, [1, 0, 0, 0])), [1, -1, 1, 5])

    def test_40_calls(self):
        calls = [line(r % 16, 0, r, [1, 0, 0, 0]) for r in range(40)]
        # Due are the number, its halves downwards to 0, and none.
        self.assertEqual(told(*calls), [number.bit_length() + 2 for number in range(40)])
        heavy = [rest(0, 3, 0, [1, 1, 0, 0]), rest(1, 8, 5, [1, 2, 0, 0])] + [two(2, op, 0, 1) for op in range(16)]
        heavy += [call(3, 1, v) for v in range(4) for call in (some, every)] + [swap(4, 1, v, 3) for v in range(4)]
        heavy += [two(5, 6, 1, 1)] * 10
        self.assertEqual(len(heavy), 40)
        self.assertEqual(min(told(*heavy)), 1)

    def test_what_is_handed_in_is_not_changed(self):
        calls = Unchanging(MIXED)
        self.assertEqual(answers(calls), answers(list(MIXED)))
        self.assertEqual(list(calls), MIXED)

    def test_nothing_is_kept_from_one_time_to_the_next(self):
        first = answers(MIXED)
        self.assertEqual(answers(MIXED), first)
        # A set that was put before is not there any more.
        self.assertEqual(answers(two(0, AND, 2, 2)), [1, 1])
        first.append(7)
        self.assertEqual(answers(MIXED), first[:-1])

    def test_kinds(self):
        given = answers(MIXED)
        self.assertIs(type(given), list)
        self.assertEqual({type(number) for number in given}, {int})

    def test_nothing_is_printed(self):
        out, err = io.StringIO(), io.StringIO()
        with contextlib.redirect_stdout(out), contextlib.redirect_stderr(err):
            answers(MIXED)
        self.assertEqual(out.getvalue() + err.getvalue(), "")
