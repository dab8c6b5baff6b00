import itertools

from helper import AND, LARGEST, SetCase, contains, holds, last, line, machine_after, told, two

SMALL = list(itertools.product(range(3), repeat=4))


class LineTest(SetCase):
    def test_counts_worked_out_by_hand(self):
        # No factor counts: all rows or none, one state.
        self.assertEqual(last(line(0, 0, 0, [0, 0, 0, 0])), 1)
        self.assertEqual(last(line(0, 0, 1, [0, 0, 0, 0])), 1)
        # Number 0 is 0: a state for "so far", one for "no more".
        self.assertEqual(last(line(0, 0, 0, [1, 0, 0, 0])), 2)
        # Number 0 is 5, bits 1, 0, 1: due 5, 2, 1, 0, and none.
        self.assertEqual(last(line(0, 0, 5, [1, 0, 0, 0])), 5)
        # Twice number 0 is odd: never.
        self.assertEqual(last(line(0, 0, 5, [2, 0, 0, 0])), 1)
        # Numbers 0 and 1 are the same.
        self.assertEqual(last(line(0, 0, 0, [1, -1, 0, 0])), 2)
        # Number 0 is at most number 1.
        self.assertEqual(last(line(0, 1, 0, [1, -1, 0, 0])), 2)
        # Each number is at least 0, and none is below.
        self.assertEqual(last(line(0, 1, 0, [-1, -1, -1, -1])), 1)
        self.assertEqual(last(line(0, 1, -1, [1, 1, 1, 1])), 1)

    def test_machines_worked_out_by_asking_for_rows(self):
        equal = [(0, 7, (3, -2)), (0, -5, (-4, 1)), (0, 100, (4, 4))]
        at_most = [(1, 6, (2, 3)), (1, -9, (1, -3)), (1, 12, (-4, 3))]
        for k, b, pair in equal + at_most:
            a = pair + (0, 0)
            calls = [line(3, k, b, a)]
            states = self.check_machine(calls, 3, lambda row: holds(("line", k, b, a), row), (0, 1), 4)
            self.assertEqual(last(*calls), states)

    def test_every_variable_has_its_own_factor(self):
        for k, b, a in [(0, 3, (1, 2, -3, 4)), (1, 2, (4, -4, 3, -1)), (0, -6, (-1, -2, -3, -4)), (1, -3, (-4, 1, 2, 3))]:
            self.check_rows([line(9, k, b, a)], 9, lambda row: holds(("line", k, b, a), row), SMALL)

    def test_rows_by_calls_alone(self):
        calls = [line(0, 0, 10, [1, 2, 3, 4])]
        self.assertTrue(contains(calls, 0, [1, 1, 1, 1]))
        self.assertTrue(contains(calls, 0, [10, 0, 0, 0]))
        self.assertFalse(contains(calls, 0, [1, 1, 1, 2]))
        calls = [line(0, 1, 10, [1, 2, 3, 4])]
        self.assertTrue(contains(calls, 0, [0, 0, 0, 0]))
        self.assertTrue(contains(calls, 0, [1, 1, 1, 1]))
        self.assertFalse(contains(calls, 0, [2, 1, 1, 1]))

    def test_however_large_the_numbers(self):
        huge = 3**300
        rows = [[4 * huge, 3 * huge, 0, 0], [4 * huge + 1, 3 * huge, 0, 0], [4 * huge - 1, 3 * huge, 0, 0]]
        self.check_rows([line(0, 0, 0, [3, -4, 0, 0])], 0, lambda row: 3 * row[0] == 4 * row[1], rows)
        self.check_rows([line(0, 1, 0, [3, -4, 0, 0])], 0, lambda row: 3 * row[0] <= 4 * row[1], rows)

    def test_same_set_said_otherwise_is_the_same_machine(self):
        for k in (0, 1):
            one = machine_after([line(2, k, 3, [1, -2, 0, 1])], 2)
            self.assertEqual(one, machine_after([line(7, k, 6, [2, -4, 0, 2])], 7))
        # At most 7, of an even sum, is at most 6.
        self.assertEqual(machine_after([line(0, 1, 7, [2, 4, 0, 0])], 0), machine_after([line(0, 1, 3, [1, 2, 0, 0])], 0))

    def test_edges_that_are_taken(self):
        self.assertEqual(last(line(0, 0, 0, [4, 4, 4, 4])), last(line(15, 0, 0, [1, 1, 1, 1])))
        # Number 2 is at most number 0.
        self.assertEqual(last(line(0, 1, 0, [-4, 0, 4, 0])), 2)
        # 100 is 1100100 in bits: due 100, 50, 25, 12, 6, 3, 1, 0, and none.
        self.assertEqual(last(line(0, 0, 100, [1, 0, 0, 0])), 9)
        self.assertEqual(last(line(0, 0, -100, [-1, 0, 0, 0])), 9)
        self.assertEqual(last(line(0, 0, -100, [1, 0, 0, 0])), 1)
        self.assertEqual(last(line(15, 1, -100, [4, 4, 4, 4])), 1)
        self.assertEqual(last(line(15, 1, 100, [-4, -4, -4, -4])), 1)

    def test_24_states_and_more(self):
        def equal(row):
            return row[1] - 4 * row[0] == 100

        def at_most(row):
            return 4 * row[0] + row[1] >= 99

        self.assertEqual(self.check_machine([line(0, 0, 100, [-4, 1, 0, 0])], 0, equal, (0, 1), 7), 24)
        self.assertEqual(self.check_machine([line(0, 1, -99, [-4, -1, 0, 0])], 0, at_most, (0, 1), 7), 24)
        self.assertEqual(last(line(0, 0, 100, [-4, 1, 0, 0])), 24)
        self.assertEqual(last(line(0, 1, -99, [-4, -1, 0, 0])), 24)
        setting = [line(0, 1, 3, [1, 1, 0, 0]), line(1, 0, 9, [0, 1, 0, 0])]
        self.check_kept(setting, line(0, 0, -98, [-4, 3, 0, 0]), -6)
        self.check_kept(setting, line(0, 1, -91, [-4, 1, 0, 0]), -6)
        self.check_kept(setting, line(5, 1, 100, [-3, 4, 4, 4]), -6)

    def test_wrong_numbers(self):
        setting = [line(0, 0, 2, [1, 1, 1, 1]), line(15, 1, 6, [1, 0, 0, 0])]
        a = [1, -1, 2, 0]
        wrong = [line(16, 0, 1, a), line(LARGEST, 0, 1, a)]
        wrong += [line(0, k, 1, a) for k in (2, 3, 256, LARGEST)]
        wrong += [line(0, k, b, a) for k in (0, 1) for b in (101, -101, LARGEST, -LARGEST)]
        for v in range(4):
            for factor in (5, -5, 2**32, LARGEST, -LARGEST):
                wrong.append(line(0, 1, 0, [factor if v == w else 0 for w in range(4)]))
        for many in (0, 1, 2, 3, 5, 8, 40):
            wrong.append(line(0, 0, 0, [0] * many))
        wrong.append(line(LARGEST, LARGEST, -LARGEST, [LARGEST] * 40))
        for call in wrong:
            self.check_kept(setting, call, -1)

    def test_minus_1_before_minus_6(self):
        many_states = [-4, 3, 0, 0]
        self.assertEqual(told(line(0, 0, -98, many_states), line(16, 0, -98, many_states)), [-6, -1])
        self.assertEqual(last(line(0, 2, -98, many_states)), -1)
        self.assertEqual(last(line(0, 0, -98, many_states + [0])), -1)

    def test_register_put_anew(self):
        calls = [line(4, 0, 5, [1, 0, 0, 0]), line(4, 0, 6, [1, 0, 0, 0])]
        self.assertFalse(contains(calls, 4, [5, 0, 0, 0]))
        self.assertTrue(contains(calls, 4, [6, 0, 0, 0]))
        # Other registers are as they were.
        self.assertEqual(last(*calls, two(0, AND, 4, 5)), 1)
