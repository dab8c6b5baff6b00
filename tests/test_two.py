import itertools

from helper import AND, FIRST_ONLY, LARGEST, OR, XOR, SetCase, contains, holds, last, line, machine_after, rest, told, two

SMALL = list(itertools.product(range(4), range(4), range(2), range(2)))
EVEN = ("rest", 2, 0, (1, 0, 0, 0))
SUM_3 = ("line", 1, 3, (1, 1, 0, 1))
PUT_BOTH = [rest(0, 2, 0, [1, 0, 0, 0]), line(1, 1, 3, [1, 1, 0, 1])]


class TwoTest(SetCase):
    def test_every_op_takes_its_rows(self):
        for op in range(16):
            self.check_rows([*PUT_BOTH, two(2, op, 0, 1)], 2, lambda row: holds(("two", op, EVEN, SUM_3), row), SMALL)

    def test_bit_2p_plus_q_by_calls_alone(self):
        # p and q of these rows: 0 0, 0 1, 1 0, 1 1.
        rows = [[5, 0, 0, 0], [1, 0, 0, 0], [4, 0, 0, 0], [2, 0, 0, 0]]
        for op in range(16):
            calls = [*PUT_BOTH, two(2, op, 0, 1)]
            self.assertEqual([contains(calls, 2, row) for row in rows], [op >> bit & 1 == 1 for bit in range(4)])

    def test_counts_worked_out_by_hand(self):
        # Nothing and everything: one state each, whatever was joined.
        self.assertEqual(told(*PUT_BOTH, two(2, 0, 0, 1), two(2, 15, 0, 1))[2:], [1, 1])
        # Rests by 5 of two numbers: 25 pairs, none like another; by 3 and by 7: 21.
        self.assertEqual(last(rest(0, 3, 0, [1, 0, 0, 0]), rest(1, 7, 0, [0, 1, 0, 0]), two(2, XOR, 0, 1)), 21)
        self.assertEqual(last(rest(0, 5, 0, [1, 0, 0, 0]), rest(1, 5, 0, [0, 1, 0, 0]), two(2, XOR, 0, 1)), -6)
        # One row is in it: (0, 0, 0, 0).
        self.assertEqual(last(line(0, 1, 0, [1, 1, 0, 0]), line(1, 1, 0, [0, 0, 1, 1]), two(2, AND, 0, 1)), 2)

    def test_machines_worked_out_by_asking_for_rows(self):
        told_of = [
            (AND, ("line", 1, 5, (1, -2, 0, 0)), ("rest", 3, 1, (1, 1, 0, 0))),
            (OR, ("line", 0, 6, (1, 1, 0, 0)), ("line", 0, 0, (2, -1, 0, 0))),
            (XOR, ("rest", 4, 2, (1, 3, 0, 0)), ("line", 1, -2, (-1, 0, 0, 0))),
            (FIRST_ONLY, ("line", 1, 9, (2, 1, 0, 0)), ("line", 1, 3, (1, 1, 0, 0))),
        ]
        for op, one, other in told_of:
            calls = [self.put(0, one), self.put(1, other), two(2, op, 0, 1)]
            states = self.check_machine(calls, 2, lambda row: holds(("two", op, one, other), row), (0, 1), 4)
            self.assertEqual(last(*calls), states)

    def put(self, r, formula):
        return (line if formula[0] == "line" else rest)(r, *formula[1:])

    def test_two_sets_are_the_same_just_if_nothing_is_between(self):
        # At most and at least is equal.
        same = [line(0, 1, 4, [1, 2, 0, 0]), line(1, 1, -4, [-1, -2, 0, 0]), two(2, AND, 0, 1), line(3, 0, 4, [1, 2, 0, 0])]
        self.assertEqual(last(*same, two(4, XOR, 2, 3)), 1)
        self.assertEqual(machine_after(same, 2), machine_after(same, 3))
        # "One but not the other", said in two ways.
        apart = [*PUT_BOTH, two(2, XOR, 0, 1), two(3, OR, 0, 1), two(4, AND, 0, 1), two(5, FIRST_ONLY, 3, 4)]
        self.assertEqual(machine_after(apart, 2), machine_after(apart, 5))
        self.assertEqual(last(*apart, two(6, XOR, 2, 5)), 1)
        # And sets that differ have a row between.
        self.assertGreater(last(*PUT_BOTH, two(2, XOR, 0, 1)), 1)
        self.assertNotEqual(machine_after(PUT_BOTH, 0), machine_after(PUT_BOTH, 1))

    def test_register_put_from_itself(self):
        wanted = machine_after([*PUT_BOTH, two(2, AND, 0, 1)], 2)
        self.assertEqual(machine_after([*PUT_BOTH, two(0, AND, 0, 1)], 0), wanted)
        self.assertEqual(machine_after([*PUT_BOTH, two(1, AND, 0, 1)], 1), wanted)
        # Neither of it and it: all that is not in it; and that again.
        self.assertFalse(contains([*PUT_BOTH, two(0, 1, 0, 0)], 0, [2, 0, 0, 0]))
        self.assertTrue(contains([*PUT_BOTH, two(0, 1, 0, 0)], 0, [3, 0, 0, 0]))
        self.assertEqual(machine_after([*PUT_BOTH, two(0, 1, 0, 0), two(0, 1, 0, 0)], 0), machine_after(PUT_BOTH, 0))

    def test_registers_that_no_call_has_put_a_set_into(self):
        for a in range(16):
            self.assertEqual(last(two(0, 15, a, a)), 1)
            self.assertFalse(contains([two(0, OR, a, a)], 0, [0, 0, 0, 0]))
            self.assertTrue(contains([two(0, 1, a, a)], 0, [0, 0, 0, 0]))
        self.assertEqual(last(line(0, 0, 5, [1, 0, 0, 0]), two(15, OR, 0, 15)), 5)
        self.assertEqual(last(line(0, 0, 5, [1, 0, 0, 0]), two(15, AND, 15, 0)), 1)

    def test_24_states_and_more(self):
        one = ("line", 1, -10, (1, -4, 0, 0))
        other = ("rest", 3, 2, (-3, -2, 0, 0))
        calls = [self.put(0, one), self.put(1, other), two(2, AND, 0, 1)]
        self.assertEqual(self.check_machine(calls, 2, lambda row: holds(("two", AND, one, other), row), (0, 1), 5), 24)
        self.assertEqual(last(*calls), 24)
        # 24 states joined with 24 states, and put into the same register again.
        self.assertEqual(told(*calls, two(2, OR, 2, 2), two(2, 1, 2, 2), two(2, XOR, 2, 2))[3:], [24, 24, 1])
        pairs = [rest(0, 5, 0, [1, 0, 0, 0]), rest(1, 5, 4, [0, 1, 0, 0])]
        for r in (0, 1, 2):
            self.check_kept(pairs, two(r, AND, 0, 1), -6)

    def test_wrong_numbers(self):
        wrong = []
        for large in (16, 17, 2**32, LARGEST):
            wrong += [two(large, AND, 0, 1), two(0, large, 0, 1), two(0, AND, large, 1), two(0, AND, 0, large)]
        wrong.append(two(LARGEST, LARGEST, LARGEST, LARGEST))
        for call in wrong:
            self.check_kept(PUT_BOTH, call, -1)

    def test_minus_1_before_minus_6(self):
        pairs = [rest(0, 5, 0, [1, 0, 0, 0]), rest(1, 5, 4, [0, 1, 0, 0])]
        self.assertEqual(told(*pairs, two(2, AND, 0, 1), two(16, AND, 0, 1), two(2, 16 + AND, 0, 1))[2:], [-6, -1, -1])
