import itertools

from helper import LARGEST, SetCase, contains, last, line, machine_after, rest, swap, told, two

SMALL = list(itertools.product(range(3), repeat=4))
SETTING = [line(0, 1, 2, [1, -1, 2, -2]), rest(1, 3, 1, [0, 1, 0, 0]), two(0, 14, 0, 1)]


class SwapTest(SetCase):
    def test_rows_with_numbers_exchanged(self):
        def belongs(row):
            return row[0] - row[1] + 2 * row[2] - 2 * row[3] <= 2 or row[1] % 3 == 1

        def exchanged(row, v, w):
            other = list(row)
            other[v], other[w] = other[w], other[v]
            return other

        for v in range(4):
            for w in range(4):
                self.check_rows([*SETTING, swap(2, 0, v, w)], 2, lambda row: belongs(exchanged(row, v, w)), SMALL)

    def test_same_set_said_otherwise_is_the_same_machine(self):
        # The states are met in another order, and are numbered so.
        for v, w, a in [(0, 1, (3, 2, 0, 1)), (0, 3, (1, 3, 0, 2)), (1, 3, (2, 1, 0, 3)), (2, 3, (2, 3, 1, 0))]:
            calls = [line(0, 0, 7, [2, 3, 0, 1]), swap(1, 0, v, w), line(2, 0, 7, a)]
            self.assertEqual(machine_after(calls, 1), machine_after(calls, 2))
            self.assertEqual(last(*calls, two(3, 6, 1, 2)), 1)

    def test_counts(self):
        # As many states as before; 24 among them.
        self.assertEqual(told(line(0, 0, 100, [-4, 1, 0, 0]), swap(0, 0, 1, 3), swap(15, 0, 0, 2)), [24, 24, 24])
        self.assertEqual(told(swap(0, 0, 0, 1), two(1, 15, 0, 0), swap(1, 1, 3, 2)), [1, 1, 1])

    def test_by_calls_alone(self):
        calls = [line(0, 0, 5, [1, 0, 0, 0]), swap(1, 0, 0, 3)]
        self.assertTrue(contains(calls, 1, [0, 0, 0, 5]))
        self.assertFalse(contains(calls, 1, [5, 0, 0, 0]))
        self.assertTrue(contains(calls, 0, [5, 0, 0, 0]))

    def test_v_and_w_the_same(self):
        for v in range(4):
            self.assertEqual(machine_after([*SETTING, swap(5, 0, v, v)], 5), machine_after(SETTING, 0))

    def test_v_and_w_the_other_way_round_and_twice(self):
        for v, w in itertools.combinations(range(4), 2):
            calls = [*SETTING, swap(5, 0, v, w), swap(6, 0, w, v), swap(7, 5, v, w)]
            self.assertEqual(machine_after(calls, 5), machine_after(calls, 6))
            self.assertEqual(machine_after(calls, 7), machine_after(calls, 0))

    def test_register_put_from_itself(self):
        wanted = machine_after([*SETTING, swap(5, 0, 1, 2)], 5)
        self.assertEqual(machine_after([*SETTING, swap(0, 0, 1, 2)], 0), wanted)

    def test_wrong_numbers(self):
        for large in (16, 17, 2**32, LARGEST):
            self.check_kept(SETTING, swap(large, 0, 1, 2), -1)
            self.check_kept(SETTING, swap(0, large, 1, 2), -1)
        for large in (4, 5, 15, LARGEST):
            self.check_kept(SETTING, swap(0, 0, large, 1), -1)
            self.check_kept(SETTING, swap(0, 0, 1, large), -1)
            self.check_kept(SETTING, swap(0, 0, large, large), -1)
