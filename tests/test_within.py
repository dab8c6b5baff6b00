import itertools

from helper import (AND, FIRST_ONLY, KINDS, LARGEST, NEITHER, OR, XOR, SetCase, answered, calls_for, every, first, has,
                    holds, last, line, machine, rest, small_rows_of, some, swap, told, two, within)

WITHIN = [1]


class WithinTest(SetCase):
    def check_least(self, setting, row, a=0, b=1):
        self.check_taken(setting)
        self.assertEqual(answered(*setting, within(a, b))[-1], [0, 4, *row], setting)
        self.assertEqual(told(*setting, has(a, row), has(b, row))[-2:], [1, 0])

    def check_within(self, setting, a=0, b=1):
        self.check_taken(setting)
        self.assertEqual(answered(*setting, within(a, b))[-1], WITHIN, setting)

    def test_each_two_kinds_of_sets(self):
        found = {True: 0, False: 0}
        for one, other in itertools.product(KINDS, repeat=2):
            setting = calls_for(one) + calls_for(other, 8)
            outside = set(small_rows_of(other))
            rows = [row for row in small_rows_of(one) if row not in outside]
            given = answered(*setting, within(0, 8))[-1]
            if given == WITHIN:
                self.assertEqual(rows, [], (one, other))
            else:
                row = tuple(given[2:])
                self.assertEqual(given, [0, 4, *row])
                self.assertTrue(holds(one, row) and not holds(other, row), (one, other, row))
                self.assertTrue(rows == [] or row <= rows[0], (one, other, row))
            found[given == WITHIN] += 1
        self.assertGreater(min(found.values()), 50)

    def test_no_lesser_row_with_large_numbers(self):
        # Of sets that may be joined: the least row is the first of those that are in the one alone.
        compared = 0
        for one, other in itertools.product(KINDS, repeat=2):
            setting = calls_for(one) + calls_for(other, 8) + [two(15, FIRST_ONLY, 0, 8)]
            given = answered(*setting, within(0, 8), first(15))
            if given[-3][0] > 0:
                compared += 1
                self.assertEqual(given[-2], WITHIN if given[-1] == [-5] else given[-1], (one, other))
        self.assertGreater(compared, 300)

    def test_rows_worked_out_by_hand(self):
        # At most 20, and at most 9.
        setting = [line(0, 1, 20, [1, 1, 0, 0]), line(1, 1, 9, [1, 1, 0, 0])]
        self.check_least(setting, [0, 10, 0, 0])
        self.check_within(setting, a=1, b=0)
        # Even but not by 4, by 3 but not by 7, beyond 90 or not.
        self.check_least([rest(0, 2, 0, [0, 0, 1, 0]), rest(1, 4, 0, [0, 0, 1, 0])], [0, 0, 2, 0])
        self.check_least([rest(0, 3, 1, [1, 0, 0, 0]), rest(1, 2, 1, [1, 0, 0, 0])], [4, 0, 0, 0])
        self.check_least([line(0, 0, 100, [0, 1, 0, 0]), line(1, 1, 99, [0, 1, 0, 0])], [0, 100, 0, 0])
        # The first number that differs decides: 100 as number 3 is less than 1 as number 2.
        setting = [line(0, 0, 100, [0, 0, 0, 1]), line(2, 0, 1, [0, 0, 1, 0]), two(0, OR, 0, 2), line(1, 0, 1, [1, 0, 0, 0])]
        self.check_least(setting, [0, 0, 0, 100])
        # Sums of threes and fours are all numbers from 6 on, but not from 5 on.
        sums = [line(1, 0, 0, [1, -3, -4, 0]), some(1, 1, 1), some(1, 1, 2)]
        self.check_within([*sums, line(0, 1, -6, [-1, 0, 0, 0])])
        self.check_least([*sums, line(0, 1, -5, [-1, 0, 0, 0])], [5, 0, 0, 0])
        # Number 0 and number 1 exchanged.
        self.check_least([line(0, 1, 0, [1, -1, 0, 0]), swap(1, 0, 0, 1)], [0, 1, 0, 0])
        # What is so for all numbers is so for some.
        both = [line(2, 1, 3, [1, -1, 1, 0]), every(0, 2, 1), some(1, 2, 1)]
        self.check_within(both)
        self.check_least(both, [0, 0, 4, 0], a=1, b=0)

    def test_large_rows(self):
        # Number 0 is 3 times 4 to the 10th, and leaves 0 by 3, not 1.
        setting = [line(0, 0, 12, [1, 0, 0, 0]), line(1, 0, 0, [-4, 1, 0, 0]), line(2, 0, 0, [1, -4, 0, 0])]
        for r, v in ((1, 0), (2, 1)) * 4 + ((1, 0),):
            setting += [two(0, AND, 0, r), some(0, 0, v)]
        number = 3 * 4**10
        self.check_within([*setting, rest(1, 3, 0, [0, 1, 0, 0])])
        self.check_least([*setting, rest(1, 3, 1, [0, 1, 0, 0])], [0, number, 0, 0])
        # More pairs of states than a set may have states: number 0 is above 4 times number 1 and 3.
        self.assertEqual(last(*setting), 24)
        above = [line(1, 1, 3, [1, -4, 0, 0])]
        self.assertEqual(last(*setting, *above, two(2, FIRST_ONLY, 0, 1)), -6)
        self.check_least([*setting, *above], [4 * number + 4, number, 0, 0])
        # Number 0 is 16 times number 1, or else it's in the other set: more bits than either set has states.
        other = [line(1, 0, 0, [1, 0, -4, 0]), line(2, 0, 0, [0, -4, 1, 0]), two(1, AND, 1, 2), some(1, 1, 2)]
        self.check_least([*setting, *other, two(1, NEITHER, 1, 1)], [16 * number, number, 0, 0])
        self.assertGreater((16 * number).bit_length(), 24)

    def test_more_pairs_of_states_than_a_set_may_have(self):
        # Joined, these are refused; that the one is within the other is told all the same.
        setting = [rest(0, 5, 3, [1, 0, 0, 0]), rest(1, 5, 4, [0, 1, 0, 0])]
        self.assertEqual(last(*setting, two(2, FIRST_ONLY, 0, 1)), -6)
        self.check_least(setting, [3, 0, 0, 0])
        self.check_least(setting, [0, 4, 0, 0], a=1, b=0)
        # 24 states and 24 states.
        setting = [line(0, 0, 100, [-4, 1, 0, 0]), line(1, 1, -99, [0, 0, -4, -1])]
        self.assertEqual(told(*setting, two(2, FIRST_ONLY, 0, 1)), [24, 24, -6])
        self.check_least(setting, [0, 100, 0, 0])
        self.check_least(setting, [0, 0, 0, 99], a=1, b=0)
        self.check_within([*setting, two(2, NEITHER, 0, 0), two(3, 15, 0, 0)], a=2, b=3)

    def test_sets_within_themselves_nothing_and_all(self):
        for formula in KINDS:
            setting = calls_for(formula) + [two(8, 15, 8, 8), two(9, 0, 8, 8)]
            self.check_within(setting, a=0, b=0)
            self.check_within(setting, a=0, b=8)
            self.check_within(setting, a=9, b=0)
            self.assertEqual(answered(*setting, within(0, 9))[-1] == WITHIN, small_rows_of(formula) == [])
        self.assertEqual(answered(within(0, 0), within(15, 3), two(15, 15, 0, 0), within(3, 15), within(15, 3)),
                         [[1], [1], [1], [1], [0, 4, 0, 0, 0, 0]])

    def test_both_ways_just_if_the_sets_are_the_same(self):
        for one, other in itertools.combinations(KINDS[::3], 2):
            setting = calls_for(one) + calls_for(other, 8)
            given = answered(*setting, within(0, 8), within(8, 0), machine(0), machine(8))[-4:]
            self.assertEqual(given[:2] == [WITHIN, WITHIN], given[2] == given[3], (one, other))
        same = [rest(0, 6, 4, [2, 0, 4, 0]), rest(1, 3, 5, [4, 3, -1, -3])]
        self.check_within(same)
        self.check_within(same, a=1, b=0)

    def test_wrong_numbers(self):
        setting = [line(0, 1, 2, [1, 0, 2, 0]), rest(15, 5, 6, [1, 0, 0, 0])]
        for large in (16, 17, 31, 2**32, LARGEST):
            self.check_kept(setting, within(large, 0), -1)
            self.check_kept(setting, within(0, large), -1)
            self.check_kept(setting, within(large, large), -1)

    def test_asking_changes_nothing(self):
        setting = [line(0, 1, 2, [1, 0, 2, 0]), rest(15, 5, 6, [1, 0, 0, 0])]
        asking = [within(0, 15), within(15, 0), within(0, 15), two(2, XOR, 0, 0), within(2, 0)]
        zeros = [0, 4, 0, 0, 0, 0]
        self.assertEqual(answered(*setting, *asking)[2:], [zeros, [0, 4, 1, 0, 1, 0], zeros, [1], [1]])
