import itertools
import random

from helper import (AND, FIRST_ONLY, LARGEST, NEITHER, OR, SECOND_ONLY, XOR, SetCase, by_rests_of_rows, calls_for,
                    contains, every, holds, last, line, machine_after, rest, sets_of_states, some, told, two)

SMALL = list(itertools.product(range(4), range(2), range(3), range(3)))
IMPLIES = 11
NOT_BOTH = 7


def sets_case(last_op, first_op, by_4, by_5, at_most):
    """Two rests, joined, and joined with a line."""
    return ("two", last_op, ("two", first_op, ("rest", 4) + by_4, ("rest", 5) + by_5), ("line", 1) + at_most)


# Sets of which just 200, and just 201, sets of states are come to if number 1 is taken away.
SOME_200 = sets_case(AND, NEITHER, (-8, (4, -3, -3, 0)), (5, (2, 4, -3, 0)), (1, (-4, 4, 4, 0)))
ALL_200 = sets_case(NOT_BOTH, NEITHER, (-8, (4, -3, -3, 0)), (5, (2, 4, -3, 0)), (1, (-4, 4, 4, 0)))
MANY_200 = sets_case(AND, AND, (-8, (4, -3, -2, 0)), (2, (4, 1, 3, 0)), (1, (4, 4, -4, 0)))
SOME_201 = sets_case(AND, AND, (-8, (2, -3, 0, 0)), (5, (4, 4, 3, 0)), (-2, (-4, 4, -4, 0)))
ALL_201 = sets_case(NOT_BOTH, AND, (-8, (-2, -3, 0, 0)), (3, (4, 4, 3, 0)), (1, (-4, 4, -4, 0)))
MANY_201 = ("two", SECOND_ONLY, ("two", 13, ("rest", 4, -12, (3, 4, 0, 0)), ("rest", 7, 6, (1, 4, 3, 0))),
            ("line", 1, -1, (-4, 4, 0, 0)))


class SomeTest(SetCase):
    def test_sets_worked_out_by_hand(self):
        # Twice some number: even.
        half = [line(0, 0, 0, [1, -2, 0, 0]), some(0, 0, 1)]
        self.assertEqual(self.check_machine(half, 0, lambda row: row[0] % 2 == 0, (0,), 3), last(*half))
        # Three times some number and 4: such as leave rest 1, from 4 on.
        steps = [line(0, 0, 4, [1, 0, -3, 0]), some(1, 0, 2)]
        self.check_machine(steps, 1, lambda row: row[0] >= 4 and row[0] % 3 == 1, (0,), 5)
        # Some number is above any: all rows.
        self.assertEqual(told(line(0, 1, -1, [1, -1, 0, 0]), some(0, 0, 1), two(1, NEITHER, 0, 0))[1:], [1, 1])
        # Some number is below number 0 by 3 or more: from 3 on.
        below = [line(0, 1, -3, [-1, 0, 0, 1]), some(0, 0, 3)]
        self.check_machine(below, 0, lambda row: row[0] >= 3, (0,), 4)

    def test_number_may_have_more_bits_than_the_others(self):
        # Number 1 is 64, number 0 is 0: bits of 0 come first, then one of 1.
        calls = [line(0, 0, 64, [1, 1, 0, 0]), line(1, 0, 0, [1, 0, 0, 0]), two(0, AND, 0, 1), some(0, 0, 1)]
        self.assertEqual(machine_after(calls, 0), machine_after(calls, 1))
        self.assertEqual(last(line(0, 0, -100, [4, -1, 0, 0]), some(0, 0, 1), two(0, NEITHER, 0, 0)), 1)
        self.assertTrue(contains([line(0, 0, -100, [4, -1, 0, 0]), some(0, 0, 1)], 0, [0, 0, 0, 0]))

    def test_number_itself_counts_no_more(self):
        for v in range(4):
            factors = [0, 0, 0, 0]
            factors[v] = 1
            calls = [line(0, 0, 5, factors), some(0, 0, v)]
            self.assertEqual(last(*calls), 1)
            self.assertTrue(contains(calls, 0, [0, 0, 0, 0]))
            for w in range(4):
                if w != v:
                    # Of another number it is as it was.
                    self.assertEqual(machine_after([*calls[:1], some(0, 0, w)], 0), machine_after(calls[:1], 0))

    def test_nothing_stays_nothing_and_all_rows_stay_all(self):
        for v in range(4):
            self.assertEqual(last(some(0, 1, v)), 1)
            self.assertFalse(contains([some(0, 1, v)], 0, [0, 0, 0, 0]))
            self.assertFalse(contains([every(0, 1, v)], 0, [0, 0, 0, 0]))
            full = [two(1, 15, 0, 0)]
            self.assertTrue(contains([*full, some(0, 1, v)], 0, [3, 1, 0, 2]))
            self.assertTrue(contains([*full, every(0, 1, v)], 0, [3, 1, 0, 2]))

    def test_some_after_some(self):
        # Sums of threes and fours: all but 1, 2 and 5.
        calls = [line(0, 0, 0, [1, -3, -4, 0]), some(0, 0, 1), some(0, 0, 2)]
        self.check_machine(calls, 0, lambda row: row[0] not in (1, 2, 5), (0,), 4)
        # The other order comes to the same.
        self.assertEqual(machine_after(calls, 0), machine_after([calls[0], some(0, 0, 2), some(0, 0, 1)], 0))

    def test_register_put_from_itself_and_into_another(self):
        setting = [line(0, 0, 0, [1, -2, 0, 0])]
        self.assertEqual(machine_after([*setting, some(0, 0, 1)], 0), machine_after([*setting, some(7, 0, 1)], 7))
        self.assertEqual(machine_after([*setting, some(7, 0, 1)], 0), machine_after(setting, 0))
        self.assertEqual(machine_after([*setting, every(0, 0, 1)], 0), machine_after([*setting, every(7, 0, 1)], 7))
        self.assertEqual(machine_after([*setting, every(7, 0, 1)], 0), machine_after(setting, 0))


class AllTest(SetCase):
    def test_sets_worked_out_by_hand(self):
        # Not twice any number: odd.
        odd = [line(0, 0, 0, [1, -2, 0, 0]), two(0, NEITHER, 0, 0), every(0, 0, 1)]
        self.check_machine(odd, 0, lambda row: row[0] % 2 == 1, (0,), 3)
        # Number 0 is at most every number and 2: up to 2.
        least = [line(0, 1, 2, [1, -1, 0, 0]), every(0, 0, 1)]
        self.check_machine(least, 0, lambda row: row[0] <= 2, (0,), 4)
        # No number is at least every number.
        self.assertFalse(contains([line(0, 1, 0, [-1, 1, 0, 0]), every(0, 0, 1)], 0, [9, 0, 0, 0]))
        self.assertEqual(last(line(0, 1, 0, [-1, 1, 0, 0]), every(0, 0, 1)), 1)

    def test_all_is_not_some_not(self):
        for formula in [("line", 1, 4, (1, -1, 2, 0)), ("two", OR, ("rest", 3, 1, (1, 1, 0, 0)), ("line", 1, 2, (0, 1, 0, 0)))]:
            for v in range(4):
                setting = calls_for(formula, 0)
                other_way = [*setting, two(3, NEITHER, 0, 0), some(3, 3, v), two(3, NEITHER, 3, 3)]
                self.assertEqual(machine_after([*setting, every(3, 0, v)], 3), machine_after(other_way, 3))

    def test_some_and_all_after_one_another(self):
        # For each number 1 there is a number 2 that is their sum; for no number 2 are all numbers 1.
        add = line(0, 0, 0, [1, 1, -1, 0])
        self.assertTrue(contains([add, some(0, 0, 2), every(0, 0, 1)], 0, [7, 0, 0, 0]))
        self.assertFalse(contains([add, every(0, 0, 1), some(0, 0, 2)], 0, [7, 0, 0, 0]))
        # Some number that is at most every number 2 and number 0: always.
        self.assertTrue(contains([line(0, 1, 0, [-1, 1, -1, 0]), every(0, 0, 2), some(0, 0, 1)], 0, [0, 5, 5, 5]))


class SomeAndAllTest(SetCase):
    def test_rows_by_trying_numbers(self):
        chance = random.Random(31)
        tried = 0
        while tried < 60:
            formula = ("two", chance.randrange(1, 15), self.condition(chance), self.condition(chance))
            formula = (chance.choice(["some", "all"]), formula, chance.randrange(4))
            calls = calls_for(formula)
            if min(told(*calls)) < 0:
                continue
            tried += 1
            self.check_rows(calls, 0, lambda row: holds(formula, row), SMALL)

    def condition(self, chance):
        a = tuple(chance.choice([0, 0, 1, 2, 3, -1, -2, -4]) for v in range(4))
        if chance.randrange(2):
            return ("line", chance.randrange(2), chance.randint(-6, 6), a)
        return ("rest", chance.randint(1, 8), chance.randint(-6, 6), a)

    def test_24_states_and_more(self):
        implied = ("two", IMPLIES, ("line", 0, 8, (1, 1, 0, 0)), ("rest", 7, 0, (4, -4, 4, 0)))
        calls = [*calls_for(implied), every(2, 0, 1)]
        states = self.check_machine(calls, 2, lambda row: row[0] > 8 or (2 * row[0] + row[2] - 8) % 7 == 0, (0, 2), 5)
        self.assertEqual((last(*calls), states), (24, 24))
        outside = ("two", FIRST_ONLY, ("line", 0, 8, (1, 1, 0, 0)), ("rest", 7, 0, (4, -4, 4, 0)))
        calls = [*calls_for(outside), some(2, 0, 1)]
        states = self.check_machine(calls, 2, lambda row: row[0] <= 8 and (2 * row[0] + row[2] - 8) % 7 != 0, (0, 2), 5)
        self.assertEqual((last(*calls), states), (24, 24))

    def test_25_states_are_refused(self):
        def not_with_both(row):
            return not (row[0] <= 4 and row[2] % 5 == 3 or row[0] == 0 and row[2] % 5 == 4)

        self.assertEqual(len(by_rests_of_rows(not_with_both, (0, 2), 4)[0]), 25)
        setting = calls_for(("two", NOT_BOTH, ("line", 1, 4, (1, 4, 0, 0)), ("rest", 5, 8, (0, 4, -4, 0))))
        self.check_kept(setting, every(0, 0, 1), -6)

        def not_with_6(row):
            return row[2] % 4 == 1 and row[2] >= 4 * row[0] - 3 and row[2] != 4 * row[0] + 21

        self.assertEqual(len(by_rests_of_rows(not_with_6, (0, 2), 6)[0]), 25)
        setting = calls_for(("two", SECOND_ONLY, ("line", 0, 6, (0, 1, 0, 0)), ("line", 0, -3, (-4, -4, 1, 0))))
        self.check_kept(setting, some(0, 0, 1), -6)

    def sets_worked_out(self, formula):
        wanted = by_rests_of_rows(lambda row: holds(formula, row), (0, 1, 2), 3)
        self.assertEqual(machine_after(calls_for(formula), 0), wanted)
        return sets_of_states(wanted, 1)

    def test_200_sets_of_states(self):
        for formula in (SOME_200, ALL_200, MANY_200):
            self.assertEqual(self.sets_worked_out(formula), 200)
        self.assertEqual(last(*calls_for(SOME_200), some(3, 0, 1)), 15)
        self.assertEqual(last(*calls_for(SOME_200), every(3, 0, 1)), 1)
        self.assertEqual(last(*calls_for(ALL_200), every(3, 0, 1)), 15)
        self.assertEqual(last(*calls_for(MANY_200), some(3, 0, 1)), -6)
        self.assertEqual(last(*calls_for(MANY_200), every(3, 0, 1)), 1)

    def test_more_than_200_sets_of_states(self):
        for formula in (SOME_201, ALL_201, MANY_201):
            self.assertEqual(self.sets_worked_out(formula), 201)
            setting = calls_for(formula)
            for r in (0, 5):
                self.check_kept(setting, some(r, 0, 1), -7)
                self.check_kept(setting, every(r, 0, 1), -7)

    def test_sets_of_states_hang_on_the_variable(self):
        # Number 3 counts for nothing, so each set of states is one state alone.
        setting = calls_for(SOME_201)
        self.assertEqual(machine_after([*setting, some(4, 0, 3), every(5, 0, 3)], 4), machine_after(setting, 0))
        self.assertEqual(machine_after([*setting, some(4, 0, 3), every(5, 0, 3)], 5), machine_after(setting, 0))

    def test_which_refusal_comes_first(self):
        # More than 200 sets of states, and more than 24 states behind them: -7; a wrong number: -1.
        setting = calls_for(MANY_201)
        for call in (some, every):
            self.assertEqual(last(*setting, call(0, 0, 1)), -7)
            self.assertEqual(last(*setting, call(16, 0, 1)), -1)
            self.assertEqual(last(*setting, call(LARGEST, 0, 1)), -1)
        setting = calls_for(MANY_200)
        self.assertEqual(told(*setting, some(0, 0, 1), some(16, 0, 1))[-2:], [-6, -1])

    def test_wrong_numbers(self):
        setting = [line(0, 0, 2, [1, 1, 1, 1]), rest(15, 5, 6, [1, 0, 0, 0])]
        for call in (some, every):
            for large in (16, 17, 2**32, LARGEST):
                self.check_kept(setting, call(large, 0, 1), -1)
                self.check_kept(setting, call(0, large, 1), -1)
                self.check_kept(setting, call(large, large, large), -1)
            for large in (4, 5, 15, 16, LARGEST):
                self.check_kept(setting, call(0, 0, large), -1)

    def test_edges_that_are_taken(self):
        for call in (some, every):
            for v in (0, 3):
                self.assertEqual(last(line(15, 1, 2, [1, 0, 0, 1]), call(0, 15, v)), last(line(0, 1, 2, [1, 0, 0, 1]), call(15, 0, v)))
        self.assertEqual(last(line(15, 1, 2, [1, 0, 0, 1]), some(0, 15, 3)), last(line(0, 1, 2, [1, 0, 0, 0])))

    def test_same_set_said_otherwise(self):
        # Twice some number is not odd, and is no rest 1 by 2.
        calls = [line(0, 0, 0, [1, -2, 0, 0]), some(0, 0, 1), rest(1, 2, 1, [1, 0, 0, 0]), two(1, NEITHER, 1, 1)]
        self.assertEqual(machine_after(calls, 0), machine_after(calls, 1))
        self.assertEqual(last(*calls, two(2, XOR, 0, 1)), 1)
