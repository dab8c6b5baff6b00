from helper import (AND, KINDS, LARGEST, NEITHER, OR, SMALL_ROWS, SetCase, answered, calls_for, every, first, has, holds,
                    last, line, rest, small_rows_of, some, swap, told, two)

NO_ROW = [-5]


def single_factor(v, factor=1):
    return [factor if v == w else 0 for w in range(4)]


class FirstTest(SetCase):
    def check_first(self, setting, row, a=0):
        self.check_taken(setting)
        self.assertEqual(answered(*setting, first(a))[-1], [0, 4, *row], setting)
        self.assertEqual(last(*setting, has(a, row)), 1)

    def test_each_kind_of_set(self):
        for formula in KINDS:
            belong = small_rows_of(formula)
            setting = calls_for(formula)
            self.check_taken(setting)
            if belong:
                self.check_first(setting, belong[0])
            else:
                self.assertEqual(answered(*setting, first(0))[-1], NO_ROW)

    def test_no_lesser_row_with_large_numbers(self):
        # Of each kind: none is in the set with a lesser beginning and whatever numbers behind it.
        for formula in KINDS:
            row = (small_rows_of(formula) or [(0, 0, 0, 0)])[0]
            for v in range(4):
                setting = calls_for(formula)
                for w in range(v):
                    setting += [line(14, 0, row[w], single_factor(w)), two(0, AND, 0, 14)]
                setting += [line(14, 1, row[v] - 1, single_factor(v)), two(0, AND, 0, 14)]
                self.check_taken(setting)
                self.assertEqual(answered(*setting, first(0))[-1], NO_ROW, (formula, v))

    def test_first_number_that_differs_decides(self):
        # A hundred as number 1 is less than one as number 0.
        self.check_first([line(0, 0, 100, [0, 1, 0, 0]), line(1, 0, 1, [1, 0, 0, 0]), two(0, OR, 0, 1)], [0, 100, 0, 0])
        for v in range(3):
            for w in range(v + 1, 4):
                far = [100 if u == w else 0 for u in range(4)]
                setting = [line(0, 0, 100, single_factor(w)), line(1, 0, 1, single_factor(v)), two(0, OR, 0, 1)]
                self.check_first(setting, far)
        # The last number takes what it can.
        self.check_first([line(0, 0, 7, [1, 1, 1, 1])], [0, 0, 0, 7])
        self.check_first([line(0, 0, 7, [1, 1, 1, 2])], [0, 0, 1, 3])
        self.check_first([line(0, 0, 7, [1, 2, 2, 2])], [1, 0, 0, 3])

    def test_rows_worked_out_by_hand(self):
        # 3 y is 70 + 4 x: x is 2 at least, so that it's a whole number.
        self.check_first([line(0, 0, 70, [-4, 3, 0, 0])], [2, 26, 0, 0])
        self.check_first([line(0, 0, 70, [0, 0, -4, 3])], [0, 0, 2, 26])
        # 4 y is 70 + 3 x.
        self.check_first([line(0, 0, 70, [-3, 4, 0, 0])], [2, 19, 0, 0])
        # 2 x + 3 y is 100: y is even, and x as little as can be.
        self.check_first([line(0, 0, 100, [2, 3, 0, 0])], [2, 32, 0, 0])
        self.check_first([line(0, 0, 100, [3, 2, 0, 0])], [0, 50, 0, 0])
        # At least 3, and number 1 more than twice that.
        self.check_first([line(0, 1, -3, [-1, 0, 0, 0]), line(1, 1, -1, [2, -1, 0, 0]), two(0, AND, 0, 1)], [3, 7, 0, 0])
        # One less than a whole number times 3 and 7, 5 and 4.
        self.check_first([rest(0, 3, -1, [1, 0, 0, 0]), rest(1, 7, -1, [1, 0, 0, 0]), two(0, AND, 0, 1)], [20, 0, 0, 0])
        self.check_first([rest(0, 5, -1, [0, 1, 0, 0]), rest(1, 4, -1, [0, 1, 0, 0]), two(0, AND, 0, 1)], [0, 19, 0, 0])
        # Each number by another rest.
        self.check_first([rest(0, 7, 3, [1, 2, 0, 0])], [0, 5, 0, 0])
        self.check_first([rest(0, 8, 3, [0, 2, 4, 3])], [0, 0, 0, 1])
        self.check_first([rest(0, 8, 2, [3, 4, 4, 4])], [2, 0, 0, 1])

    def test_of_what_is_left_by_some_and_all(self):
        # Sums of threes and fours, from 1 on: and such as are none.
        sums = [line(0, 0, 0, [1, -3, -4, 0]), some(0, 0, 1), some(0, 0, 2), line(1, 1, -5, [-1, 0, 0, 0])]
        self.check_first([*sums, two(2, AND, 0, 1)], [6, 0, 0, 0], a=2)
        self.check_first([*sums, two(2, NEITHER, 0, 0)], [1, 0, 0, 0], a=2)
        self.check_first([*sums, two(2, 2, 0, 1)], [5, 0, 0, 0], a=2)
        # Above every number that is at most 6: 7.
        self.check_first([line(0, 1, 6, [0, 0, 1, 0]), line(1, 1, -1, [0, 0, 1, -1]), two(0, 11, 0, 1), every(0, 0, 2)],
                         [0, 0, 0, 7])

    def test_large_rows(self):
        # 3 times 4 to the 2nd, 3rd .. 10th: 22 bits, with one state for each, one at the end and one for none.
        setting = [line(0, 0, 12, [1, 0, 0, 0]), line(1, 0, 0, [-4, 1, 0, 0]), line(2, 0, 0, [1, -4, 0, 0])]
        number = 12
        for turn in range(4):
            for r, v in ((1, 0), (2, 1)):
                setting += [two(0, AND, 0, r), some(0, 0, v)]
                number *= 4
                row = [number, 0, 0, 0] if v else [0, number, 0, 0]
                self.check_first(setting, row)
        setting += [two(0, AND, 0, 1), some(0, 0, 0), swap(0, 0, 1, 3)]
        self.assertEqual(last(*setting), 24)
        self.check_first(setting, [0, 0, 0, 3145728])
        self.check_first([*setting, swap(1, 0, 3, 2), two(0, AND, 0, 1)], [0, 0, 3145728, 3145728])

    def test_zeros(self):
        self.check_first([two(0, 15, 0, 0)], [0, 0, 0, 0])
        self.check_first([line(7, 1, 100, [4, 4, 4, 4])], [0, 0, 0, 0], a=7)
        self.check_first([line(0, 0, 0, [1, 1, 1, 1])], [0, 0, 0, 0])

    def test_no_row_at_all(self):
        for a in range(16):
            self.assertEqual(answered(first(a)), [NO_ROW])
        contradiction = [line(0, 0, 5, [1, 0, 0, 0]), rest(1, 2, 0, [1, 0, 0, 0]), two(2, AND, 0, 1)]
        self.check_kept(contradiction, first(2), -5)
        self.check_kept(contradiction, first(15), -5)
        self.check_first(contradiction, [5, 0, 0, 0])
        self.check_kept([line(0, 1, -1, [4, 0, 0, 1])], first(0), -5)
        self.check_kept([rest(0, 4, 1, [2, 4, -2, 0])], first(0), -5)
        self.check_kept([line(0, 1, 3, [1, -1, 0, 0]), every(0, 0, 0)], first(0), -5)

    def test_wrong_numbers(self):
        setting = [two(0, 15, 0, 0), line(15, 0, 1, [1, 0, 0, 0])]
        for large in (16, 17, 31, 2**32, LARGEST):
            self.check_kept(setting, first(large), -1)
        # No register, so no set without rows either: -1, not -5.
        self.assertEqual(told(first(15), first(16)), [-5, -1])

    def test_asking_changes_nothing(self):
        setting = [line(0, 1, 9, [2, 1, -1, 3]), rest(3, 5, 1, [1, 0, 0, 0])]
        once = answered(*setting, first(3), first(0), first(3))[2:]
        self.assertEqual(once, [[0, 4, 1, 0, 0, 0], [0, 4, 0, 0, 0, 0], [0, 4, 1, 0, 0, 0]])

    def test_small_rows_are_all_there(self):
        self.assertEqual(SMALL_ROWS, sorted(SMALL_ROWS))
        self.assertTrue(all(holds(formula, row) for formula in KINDS for row in small_rows_of(formula)[:3]))
