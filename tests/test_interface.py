"""How calls are handed in, and how answers are given back."""

import contextlib
import io
import unittest

from helper import (AND, LARGEST, MOST_CALLS, answered, count, every, first, hangs, has, line, machine, one_list, rest,
                    some, swap, told, two, within)

from leastmachines.registers import answers


class Unchanging(list):
    """A list that can't be changed, not for a while either."""

    def refuse(self, *given):
        raise AssertionError("the list that was handed in was changed")

    __setitem__ = __delitem__ = __iadd__ = __imul__ = refuse
    append = extend = insert = pop = remove = clear = sort = reverse = refuse


MIXED = one_list([
    line(0, 1, 7, [1, 2, 0, -1]), rest(1, 5, -3, [0, 4, -4, 1]), two(2, 16, 0, 1), two(2, AND, 0, 1), some(3, 2, 1),
    every(4, 0, 3), swap(5, 1, 0, 2), line(6, 0, 1, []), line(6, 0, 1, [1, 0, 0, 0]), some(16, 0, 0),
    has(0, [1, 2, 3, 4]), has(0, [LARGEST, 0, 0, 0]), has(0, [1, 2]), has(16, [1, 2, 3, 4]), first(0), first(1), first(9),
    first(16), count(0), count(9), count(16), hangs(2), hangs(9), hangs(16), machine(5), machine(9), machine(16),
    within(6, 0), within(2, 0), within(9, 0), within(0, 16)])


class AnswersTest(unittest.TestCase):
    def test_no_call_at_all(self):
        self.assertEqual(answers([]), [])

    def test_each_answer_has_its_length_before_it(self):
        self.assertEqual(answers(line(0, 0, 5, [1, 0, 0, 0])), [1, 5])
        self.assertEqual(answers(line(0, 0, 5, [])), [1, -1])
        self.assertEqual(answers(line(0, 0, 5, [1, 0, 0, 0]) + rest(1, 2, 0, [0, 1, 0, 0]) + swap(2, 0, 1, 4)), [1, 5, 1, 3, 1, -1])

    def test_calls_as_they_are_written(self):
        self.assertEqual(answers([0, 3, 0, 5, 4, 1, 0, 0, 0]), [1, 5])
        self.assertEqual(answers([1, 3, 7, 5, 4, 1, 0, 0, 0]), [1, 7])
        self.assertEqual(answers([0, 3, 0, 5, 4, 1, 0, 0, 0, 2, 4, 12, 3, 3]), [1, 5, 1, 5])
        self.assertEqual(answers([0, 3, 0, 5, 4, 1, 0, 0, 0, 3, 4, 3, 0]), [1, 5, 1, 1])
        self.assertEqual(answers([0, 3, 0, 5, 4, 1, 0, 0, 0, 4, 4, 3, 1]), [1, 5, 1, 5])
        self.assertEqual(answers([0, 3, 0, 5, 4, 1, 0, 0, 0, 5, 4, 3, 0, 1]), [1, 5, 1, 5])

    def test_questions_as_they_are_written(self):
        # Number 0 is 1, and number 1 is whatever it is.
        put = [0, 3, 0, 1, 4, 1, 0, 0, 0]
        self.assertEqual(answers(put + [6, 3, 4, 1, 7, 0, 0]), [1, 3, 1, 1])
        self.assertEqual(answers(put + [6, 3, 4, 7, 1, 0, 0]), [1, 3, 1, 0])
        self.assertEqual(answers(put + [7, 3]), [1, 3, 6, 0, 4, 1, 0, 0, 0])
        self.assertEqual(answers(put + [8, 3]), [1, 3, 1, -5])
        self.assertEqual(answers([0, 3, 0, 1, 4, 1, 1, 1, 1, 8, 3]), [1, 3, 1, 4])
        self.assertEqual(answers(put + [9, 3]), [1, 3, 3, 1, 1, 0])
        self.assertEqual(answers([0, 3, 1, 5, 4, 1, 0, 1, -1, 9, 3])[2:], [5, 3, 3, 0, 2, 3])
        self.assertEqual(answers(put + [10, 3]), [1, 3, 53, 3, 51, 0] + [1, 2] * 8 + [0] + [1] * 16 + [1] + [2, 1] * 8)
        self.assertEqual(answers(put + [11, 3, 3]), [1, 3, 1, 1])
        self.assertEqual(answers(put + [11, 3, 4]), [1, 3, 6, 0, 4, 1, 0, 0, 0])
        # Of sets that have nothing in them.
        self.assertEqual(answers([7, 0]), [1, -5])
        self.assertEqual(answers([8, 0]), [1, 0])
        self.assertEqual(answers([9, 0]), [2, 0, 0])
        self.assertEqual(answers([10, 0]), [19, 1, 17] + [0] * 17)
        self.assertEqual(answers([11, 0, 15]), [1, 1])
        # Refusals are one number.
        for call in ([6, 0, 0], [6, 0, 3, 1, 2, 3], [6, 16, 4, 1, 2, 3, 4], [7, 16], [8, 16], [9, 16], [10, 16],
                     [11, 16, 0], [11, 0, 16]):
            self.assertEqual(answers(call), [1, -1])
            self.assertEqual(answers(call + put), [1, -1, 1, 3])

    def test_lists_of_any_length_are_read_over(self):
        for many in list(range(4)) + [5, 6, 39, 40]:
            for call in (line(0, 0, 0, [LARGEST] * many), rest(0, 1, 0, [-LARGEST] * many), has(0, [LARGEST] * many)):
                self.assertEqual(answers(call + line(0, 0, 5, [1, 0, 0, 0])), [1, -1, 1, 5])

    def test_40_calls(self):
        calls = [line(r % 16, 0, r, [1, 0, 0, 0]) for r in range(40)]
        # Due are the number, its halves downwards to 0, and none.
        self.assertEqual(told(*calls), [number.bit_length() + 2 for number in range(40)])
        heavy = [rest(0, 3, 0, [1, 1, 0, 0]), rest(1, 8, 5, [1, 2, 0, 0])] + [two(2, op, 0, 1) for op in range(16)]
        heavy += [call(3, 1, v) for v in range(4) for call in (some, every)] + [swap(4, 1, v, 3) for v in range(4)]
        heavy += [two(5, 6, 1, 1)] * 10
        self.assertEqual(len(heavy), 40)
        self.assertEqual(min(told(*heavy)), 1)

    def test_40_calls_of_all_twelve(self):
        calls = [line(0, 0, 1, [1, 1, 1, 1]), rest(1, 2, 0, [0, 1, 0, 0]), two(2, AND, 0, 1), some(3, 2, 0), every(4, 1, 3),
                 swap(5, 2, 0, 1)]
        wanted = [[3], [3], [3], [3], [3], [3]]
        # Of the four rows with one 1 in them three have an even number 1.
        calls += [has(2, [1, 0, 0, 0]), has(2, [0, 1, 0, 0]), first(2), count(2), hangs(2), machine(9), within(2, 0),
                  within(0, 2)]
        wanted += [[1], [0], [0, 4, 0, 0, 0, 1], [3], [4, 4, 0, 1, 2, 3], [1, 17] + [0] * 17, [1], [0, 4, 0, 1, 0, 0]]
        calls += [first(3), count(3), hangs(4), within(4, 1), within(1, 4), has(5, [0, 1, 0, 0]), count(16), first(9)]
        wanted += [[0, 4, 0, 0, 0, 0], [-5], [1, 1, 1], [1], [1], [1], [-1], [-5]]
        room = MOST_CALLS - len(calls)
        calls += [has(2, [0, 0, 1, 0]), within(0, 2)] * (room // 2)
        wanted += [[1], [0, 4, 0, 1, 0, 0]] * (room // 2)
        self.assertEqual(len(calls), 40)
        self.assertEqual(answered(*calls), wanted)

    def test_longest_lists(self):
        # 40 calls with 40 numbers in each list.
        self.assertEqual(answers(one_list([has(15, [LARGEST] * 40)] * 40)), [1, -1] * 40)
        self.assertEqual(answers(one_list([line(15, 0, 0, [-LARGEST] * 40)] * 40)), [1, -1] * 40)
        # 24 states told 39 times.
        calls = [line(0, 0, 100, [-4, 1, 0, 0])] + [machine(0)] * 39
        self.assertEqual([len(part) for part in answered(*calls)], [1] + [2 + 17 * 24] * 39)

    def test_what_is_handed_in_is_not_changed(self):
        calls = Unchanging(MIXED)
        self.assertEqual(answers(calls), answers(list(MIXED)))
        self.assertEqual(list(calls), MIXED)

    def test_nothing_is_kept_from_one_time_to_the_next(self):
        once = answers(MIXED)
        self.assertEqual(answers(MIXED), once)
        # A set that was put before is not there any more.
        self.assertEqual(answers(two(0, AND, 2, 2)), [1, 1])
        self.assertEqual(answers(first(6)), [1, -5])
        self.assertEqual(answers(machine(6)), [19, 1, 17] + [0] * 17)
        once.append(7)
        self.assertEqual(answers(MIXED), once[:-1])

    def test_kinds(self):
        given = answers(MIXED)
        self.assertIs(type(given), list)
        self.assertEqual({type(number) for number in given}, {int})

    def test_nothing_is_printed(self):
        out, err = io.StringIO(), io.StringIO()
        with contextlib.redirect_stdout(out), contextlib.redirect_stderr(err):
            answers(MIXED)
        self.assertEqual(out.getvalue() + err.getvalue(), "")
