import itertools
import math

from helper import (AND, FIRST_ONLY, KINDS, LARGEST, NEITHER, OR, SetCase, answered, calls_for, count, every, holds, last,
                    line, machine_after, rest, single, some, swap, told, two)

from leastmachines.changes import pairs_machine
from leastmachines.machines import Machine
from leastmachines.questions import count_rows
from leastmachines.refusals import TooManyRows

NO_END = -5
TOO_MANY = -6

# Number 1 is 2^16, then numbers 0 and 2 are below it, and so is twice number 3: 2^16, 2^16, 2^16 and 2^15 of them.
POWER = [line(0, 0, 64, [1, 0, 0, 0]), line(1, 0, 0, [-4, 1, 0, 0]), line(2, 0, 0, [1, -4, 0, 0])]
for relation, number in ((1, 0), (2, 1), (1, 0), (2, 1), (1, 0)):
    POWER += [two(0, AND, 0, relation), some(0, 0, number)]
BELOW = [line(1, 1, -1, [1, -1, 0, 0]), two(0, AND, 0, 1), some(3, 0, 1), swap(3, 3, 0, 1)]
BELOW += [line(1, 1, -1, [0, -1, 1, 0]), two(0, AND, 0, 1), line(1, 1, -1, [0, -1, 0, 2]), two(0, AND, 0, 1)]
ROWS_2_63 = POWER + BELOW + [some(0, 0, 1), two(0, AND, 0, 3)]
# All four are whole numbers times 128, and these rows away: the most states that a register's set may have.
BY_128 = [line(2, 0, 0, [1, -4, 0, 0]), rest(3, 8, 0, [0, 1, 0, 0]), two(3, AND, 3, 2), some(3, 3, 1), swap(3, 3, 0, 1)]
BY_128 += [two(3, AND, 3, 2), some(3, 3, 1), swap(4, 3, 0, 1), two(3, AND, 3, 4), swap(4, 3, 0, 2), two(3, AND, 3, 4)]
BY_128 += [swap(4, 4, 1, 3), two(3, AND, 3, 4)]
ROWS_BELOW_2_63 = ROWS_2_63 + BY_128 + [two(0, FIRST_ONLY, 0, 3)]


class CountTest(SetCase):
    def check_count(self, setting, rows, a=0):
        self.check_taken(setting)
        self.assertEqual(last(*setting, count(a)), rows, setting)

    def test_counted_one_by_one(self):
        # Sums of factors above 0: no number is above b.
        for k, b, a in [(1, 0, (1, 1, 1, 1)), (1, 3, (1, 1, 1, 1)), (1, 7, (1, 2, 3, 4)), (0, 6, (2, 1, 1, 3)),
                        (0, 9, (4, 3, 2, 1)), (0, 12, (3, 3, 4, 2)), (1, 5, (4, 4, 4, 4)), (0, 1, (2, 3, 4, 4))]:
            rows = [row for row in itertools.product(range(b + 1), repeat=4) if holds(("line", k, b, a), row)]
            self.check_count([line(0, k, b, a)], len(rows))

    def test_counted_one_by_one_of_sets_made_by_other_calls(self):
        at_most = ("line", 1, 6, (1, 1, 2, 1))
        sets = [
            ("two", AND, at_most, ("rest", 3, 1, (1, 2, 0, 1))),
            ("two", FIRST_ONLY, at_most, ("rest", 4, 2, (1, 1, 1, 1))),
            ("two", AND, at_most, ("some", ("line", 0, 2, (1, -3, 0, 0)), 1)),
            ("two", AND, at_most, ("all", ("two", OR, ("rest", 2, 1, (0, 1, 1, 0)), ("line", 1, -1, (1, 0, -2, 0))), 2)),
            ("swap", ("two", AND, ("line", 0, 5, (1, 1, 1, 2)), ("line", 1, 0, (1, -1, 0, 0))), 1, 3),
        ]
        for formula in sets:
            rows = [row for row in itertools.product(range(7), repeat=4) if holds(formula, row)]
            self.check_count(calls_for(formula), len(rows))
            self.assertGreater(len(rows), 3)

    def test_no_row_and_one_row(self):
        for a in range(16):
            self.assertEqual(told(count(a)), [0])
        self.check_count([line(0, 1, -1, [1, 1, 1, 1])], 0)
        for row in itertools.product((0, 1, 20, 100), repeat=4):
            self.check_count(single(7, 8, row), 1, a=7)

    def test_counts_by_formula(self):
        # Four numbers that make up b together; and at most b.
        for b in (0, 1, 2, 5, 13):
            self.check_count([line(0, 0, b, [1, 1, 1, 1])], math.comb(b + 3, 3))
            self.check_count([line(0, 1, b, [1, 1, 1, 1])], math.comb(b + 4, 4))

    def test_no_end(self):
        # One number alone goes on, whichever it is, from where on and in whatever steps.
        for v in range(4):
            others = [0 if w == v else 1 for w in range(4)]
            factors = [1 if w == v else 0 for w in range(4)]
            alone = [line(0, 0, 0, others)]
            self.check_count(alone, NO_END)
            self.check_count([*alone, line(1, 1, -100, [-factor for factor in factors]), two(0, AND, 0, 1)], NO_END)
            self.check_count([*alone, rest(1, 8, 7, factors), two(0, AND, 0, 1)], NO_END)
            self.check_count([*alone, line(1, 1, 100, factors), two(0, AND, 0, 1)], 101)
        # Only together, and only far apart.
        self.check_count([line(0, 0, 0, [1, -1, 0, 0]), line(1, 0, 0, [0, 1, -1, 0]), two(0, AND, 0, 1),
                          line(1, 0, 0, [0, 0, 1, -1]), two(0, AND, 0, 1)], NO_END)
        self.check_count([line(0, 0, 80, [-4, 3, 0, 0]), line(1, 0, 0, [0, 0, 1, 1]), two(0, AND, 0, 1)], NO_END)
        # Larger than any count: no end comes first.
        self.check_count([two(0, 15, 0, 0)], NO_END)
        self.check_count([line(0, 1, 100, [1, 0, 0, 0])], NO_END)
        self.check_count([line(0, 1, 2, [1, -1, 0, -1]), every(0, 0, 3)], NO_END)

    def test_each_kind_of_set_has_an_end_or_not(self):
        # Those with an end have no number above 5 in any row: sums of factors above 0, or no row at all.
        ends = [KINDS[number] for number in (3, 4, 5, 12, 13, 22)]
        for formula in KINDS:
            rows = [row for row in itertools.product(range(6), repeat=4) if formula in ends and holds(formula, row)]
            self.check_count(calls_for(formula), len(rows) if formula in ends else NO_END)

    def test_2_to_the_63_rows(self):
        self.check_count(ROWS_2_63, TOO_MANY)
        self.check_kept(ROWS_2_63, count(0), TOO_MANY)
        # Twice as many, number 3 being below 2^16 as well.
        wide = [some(1, 0, 3), some(2, 1, 1), some(2, 2, 2), swap(2, 2, 0, 3), two(1, AND, 1, 2)]
        self.check_count([*ROWS_2_63, *wide], TOO_MANY, a=1)
        # Of these a half again, a quarter, an eighth.
        self.check_count([*ROWS_2_63, *wide, rest(2, 2, 1, [1, 0, 0, 0]), two(1, AND, 1, 2)], TOO_MANY, a=1)
        self.check_count([*ROWS_2_63, *wide, rest(2, 4, 1, [0, 1, 0, 0]), two(1, AND, 1, 2)], 2**62, a=1)
        self.check_count([*ROWS_2_63, *wide, rest(2, 8, 1, [0, 0, 1, 0]), two(1, AND, 1, 2)], 2**61, a=1)

    def test_the_last_counts_below(self):
        self.check_count(ROWS_BELOW_2_63, 2**63 - 2**35)
        self.assertEqual(told(*ROWS_BELOW_2_63)[-1], 24)
        self.assertLessEqual(len(ROWS_BELOW_2_63) + 1, 40)

    def test_the_very_edge(self):
        # No register holds a set of 2^63 - 1 rows so simply, but its machine may be counted.
        most = Machine(*machine_after(ROWS_2_63, 0))
        zeros = Machine(*machine_after([line(0, 0, 0, [1, 1, 1, 1])], 0))
        self.assertEqual(count_rows(pairs_machine(FIRST_ONLY, most, zeros)), 2**63 - 1)
        for op in (OR, 12):
            with self.assertRaises(TooManyRows):
                count_rows(pairs_machine(op, most, zeros))

    def test_bits_up_to_the_last_state(self):
        # Number 1 is 3 times 4 to the 10th and the others are 0: one row of 22 bits.
        setting = [line(0, 0, 12, [1, 0, 0, 0]), line(1, 0, 0, [-4, 1, 0, 0]), line(2, 0, 0, [1, -4, 0, 0])]
        for r, v in ((1, 0), (2, 1)) * 4 + ((1, 0),):
            setting += [two(0, AND, 0, r), some(0, 0, v)]
        row = [*setting, line(1, 0, 0, [1, 0, 1, 1]), two(0, AND, 0, 1)]
        self.assertEqual(last(*row), 24)
        self.check_count(row, 1)
        # All rows but the one; and those with the others as they are.
        self.check_count([*row, two(0, NEITHER, 0, 0)], NO_END)
        self.check_count(setting, NO_END)

    def test_no_end_comes_before_too_many(self):
        # So many states that there are 2^63 rows with as many bits, long before it's seen that there's no end.
        self.check_count([line(0, 0, 100, [-4, 1, 0, 0])], NO_END)
        self.check_count([line(0, 0, 100, [-4, 1, 0, 0]), two(0, NEITHER, 0, 0)], NO_END)
        self.check_count([*ROWS_2_63, two(0, NEITHER, 0, 0)], NO_END)

    def test_wrong_numbers(self):
        setting = [two(0, 15, 0, 0), line(15, 0, 1, [1, 1, 1, 1])]
        for large in (16, 17, 31, 2**32, LARGEST):
            self.check_kept(setting, count(large), -1)
        self.check_kept(setting, count(0), NO_END)
        self.check_kept(setting, count(15), 4)
        self.assertEqual(answered(*setting, count(15), count(0), count(16), count(1))[2:], [[4], [-5], [-1], [0]])
