import itertools

from helper import AND, LARGEST, XOR, SetCase, contains, holds, last, line, machine_after, rest, told, two

SMALL = list(itertools.product(range(3), repeat=4))


class RestTest(SetCase):
    def test_counts_worked_out_by_hand(self):
        # Every whole number is a whole number times 1.
        self.assertEqual(last(rest(0, 1, 0, [1, 2, 3, 4])), 1)
        self.assertEqual(last(rest(0, 1, -100, [4, -4, 3, 1])), 1)
        # Even: only the lowest bit counts; a first state, and then yes and no.
        self.assertEqual(last(rest(0, 2, 0, [1, 0, 0, 0])), 3)
        # By 8: three bits count, then yes and no.
        self.assertEqual(last(rest(0, 8, 3, [1, 0, 0, 0])), 5)
        # By an odd m: as many states as rests.
        for m in (3, 5, 7):
            self.assertEqual(last(rest(0, m, 1, [1, 0, 0, 0])), m)
        # Four times a number is always even, never odd.
        self.assertEqual(told(rest(0, 2, 0, [4, 4, 4, 4]), rest(0, 2, 1, [4, 4, 4, 4])), [1, 1])

    def test_machines_worked_out_by_asking_for_rows(self):
        for m in range(1, 9):
            for b, pair in [(0, (1, 2)), (5, (3, -1)), (-7, (-4, 3)), (100, (2, 2)), (-100, (0, -3))]:
                a = pair + (0, 0)
                calls = [rest(0, m, b, a)]
                states = self.check_machine(calls, 0, lambda row: holds(("rest", m, b, a), row), (0, 1), 3)
                self.assertEqual(last(*calls), states)

    def test_every_variable_has_its_own_factor(self):
        for m in range(1, 9):
            for b, a in [(1, (1, 2, -3, 4)), (-5, (-4, 3, 1, -2))]:
                self.check_rows([rest(2, m, b, a)], 2, lambda row: holds(("rest", m, b, a), row), SMALL)

    def test_sums_below_b_leave_rests_too(self):
        calls = [rest(0, 7, 20, [1, 0, 0, 0])]
        self.assertTrue(contains(calls, 0, [6, 0, 0, 0]))
        self.assertTrue(contains(calls, 0, [20, 0, 0, 0]))
        self.assertFalse(contains(calls, 0, [7, 0, 0, 0]))
        calls = [rest(0, 7, -1, [-1, 0, 0, 0])]
        self.assertTrue(contains(calls, 0, [1, 0, 0, 0]))
        self.assertTrue(contains(calls, 0, [8, 9, 9, 9]))
        self.assertFalse(contains(calls, 0, [0, 0, 0, 0]))

    def test_however_large_the_numbers(self):
        huge = 5**200
        rows = [[huge + more, 0, 0, 0] for more in range(14)]
        self.check_rows([rest(0, 7, 3, [1, 0, 0, 0])], 0, lambda row: row[0] % 7 == 3, rows)
        self.check_rows([rest(0, 6, 3, [1, 0, 0, 0])], 0, lambda row: row[0] % 6 == 3, rows)

    def test_same_set_said_otherwise_is_the_same_machine(self):
        one = machine_after([rest(0, 6, 4, [2, 0, 4, 0])], 0)
        self.assertEqual(one, machine_after([rest(9, 3, 2, [1, 0, 2, 0])], 9))
        self.assertEqual(one, machine_after([rest(9, 3, 5, [4, 3, -1, -3])], 9))
        # By 6 is by 2 and by 3.
        both = [rest(1, 2, 1, [1, 0, 0, 0]), rest(2, 3, 2, [1, 0, 0, 0]), two(1, AND, 1, 2)]
        self.assertEqual(machine_after([rest(1, 6, 5, [1, 0, 0, 0])], 1), machine_after(both, 1))
        self.assertEqual(last(*both, rest(2, 6, 5, [1, 0, 0, 0]), two(3, XOR, 1, 2)), 1)

    def test_edges_that_are_taken(self):
        self.assertEqual(told(rest(0, 8, 100, [4, 4, 4, 4]), rest(15, 8, -100, [-4, -4, -4, -4])), [3, 3])
        self.assertEqual(told(rest(0, 1, 100, [4, 4, 4, 4]), rest(15, 1, -100, [-4, -4, -4, -4])), [1, 1])

    def test_wrong_numbers(self):
        setting = [line(0, 0, 2, [1, 1, 1, 1]), rest(15, 5, 6, [1, 0, 0, 0])]
        a = [1, -1, 2, 0]
        wrong = [rest(16, 2, 1, a), rest(LARGEST, 2, 1, a)]
        wrong += [rest(0, m, 1, a) for m in (0, 9, 10, 16, LARGEST)]
        wrong += [rest(0, 3, b, a) for b in (101, -101, LARGEST, -LARGEST)]
        for v in range(4):
            for factor in (5, -5, 2**32, LARGEST, -LARGEST):
                wrong.append(rest(0, 8, 0, [factor if v == w else 0 for w in range(4)]))
        for many in (0, 1, 2, 3, 5, 8, 40):
            wrong.append(rest(0, 1, 0, [0] * many))
        for call in wrong:
            self.check_kept(setting, call, -1)
