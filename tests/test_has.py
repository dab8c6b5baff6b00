import random

from helper import (AND, KINDS, LARGEST, NEITHER, OR, SMALL_ROWS, XOR, SetCase, answered, asked, calls_for, every, has,
                    holds, last, line, rest, small_rows_of, some, swap, told, two)

EDGES = (0, 1, 2, 3, 2**31 - 1, 2**31, 2**32, 2**53 + 1, 2**62 - 1, 2**62, LARGEST - 1, LARGEST)


def large_rows():
    """Rows of numbers up to the largest that may be handed in, near to one another among them."""
    chance = random.Random(6)
    rows = []
    for turn in range(60):
        row = [chance.choice(EDGES) for v in range(4)]
        if turn % 2:
            row[chance.randrange(4)] = chance.randint(0, LARGEST)
        if turn % 3 == 0:
            row[1] = max(0, min(LARGEST, row[0] + chance.randint(-3, 3)))
        if turn % 5 == 0:
            row[2] = row[0] // 2 + chance.randint(0, 1)
        rows.append(row)
    return rows + [[LARGEST] * 4, [0] * 4]


class HasTest(SetCase):
    def check_has(self, setting, belongs, rows, a=0):
        self.check_taken(setting)
        found = asked(setting, [has(a, row) for row in rows])
        self.assertEqual(found, [[int(belongs(row))] for row in rows], setting)

    def test_small_rows_of_each_kind_of_set(self):
        for formula in KINDS:
            belong = set(small_rows_of(formula))
            self.check_has(calls_for(formula), lambda row: row in belong, SMALL_ROWS)

    def test_large_rows_of_conditions(self):
        for formula in KINDS:
            if formula[0] not in ("some", "all") and "some" not in str(formula):
                self.check_has(calls_for(formula), lambda row: holds(formula, row), large_rows())

    def test_large_rows_with_factors(self):
        double = [[2 * x + more, x, 0, 0] for x in (2**61, 2**62 - 1, 3**39) for more in (0, 1)]
        self.check_has([line(0, 0, 0, [1, -2, 0, 0])], lambda row: row[0] == 2 * row[1], double)
        self.check_has([line(0, 1, 0, [1, -2, 0, 0])], lambda row: row[0] <= 2 * row[1], double)
        # Four times the largest number, four times: far above what may be handed in.
        edges = [[LARGEST, LARGEST, LARGEST, LARGEST - less] for less in range(3)]
        self.check_has([line(0, 0, 4, [4, 4, -4, -4])], lambda row: row[3] == LARGEST - 1, edges)
        self.check_has([line(0, 1, 3, [4, 4, -4, -4])], lambda row: row[3] == LARGEST, edges)

    def test_large_rows_of_some_and_all(self):
        rows = large_rows()
        thirds = [line(0, 0, 1, [1, -3, 2, 0]), some(0, 0, 1)]
        self.check_has(thirds, lambda row: row[0] + 2 * row[2] >= 1 and (row[0] + 2 * row[2]) % 3 == 1, rows)
        # Not half of any number, being odd.
        odd = [line(0, 0, 0, [0, 0, 1, -2]), two(0, NEITHER, 0, 0), every(0, 0, 3)]
        self.check_has(odd, lambda row: row[2] % 2 == 1, rows)
        # At most every number and number 1.
        least = [line(0, 1, 1, [1, -1, 0, -1]), every(0, 0, 3)]
        self.check_has(least, lambda row: row[0] <= row[1] + 1, rows)
        # A whole number lies between.
        between = [line(0, 1, -1, [1, 0, -1, 0]), line(1, 1, -1, [0, -1, 1, 0]), two(0, AND, 0, 1), some(0, 0, 2)]
        self.check_has(between, lambda row: row[0] + 2 <= row[1], rows)
        self.check_has([*between, swap(0, 0, 0, 3)], lambda row: row[3] + 2 <= row[1], rows)

    def test_which_number_is_which(self):
        for v in range(4):
            factors = [0, 0, 0, 0]
            factors[v] = 1
            rows = [[LARGEST if w == v else 0 for w in range(4)], [0 if w == v else LARGEST for w in range(4)]]
            self.check_has([line(9, 1, 100, factors)], lambda row: row[v] <= 100, rows, a=9)

    def test_registers_that_no_call_has_put_a_set_into(self):
        for a in range(16):
            self.assertEqual(told(has(a, [0, 0, 0, 0]), has(a, [LARGEST] * 4)), [0, 0])
        self.assertEqual(told(two(15, 15, 0, 0), has(15, [LARGEST] * 4), has(14, [LARGEST] * 4)), [1, 1, 0])

    def test_asking_changes_nothing(self):
        setting = [line(0, 0, 2, [1, 1, 1, 1]), rest(15, 5, 1, [1, 0, 0, 0])]
        asking = [has(0, [1, 1, 0, 0]), has(0, [1, 1, 0, 0]), has(15, [1, 1, 0, 0]), has(0, [1, 1, 1, 0])]
        self.assertEqual(told(*setting, *asking), told(*setting) + [1, 1, 1, 0])
        self.check_kept(setting, has(0, [1, 1, 0, 0]), 1)
        self.check_kept(setting, has(0, [1, 1, 0, 1]), 0)

    def test_set_put_between(self):
        self.assertEqual(told(has(3, [5, 0, 0, 0]), line(3, 0, 5, [1, 0, 0, 0]), has(3, [5, 0, 0, 0]), two(3, XOR, 3, 3),
                              has(3, [5, 0, 0, 0])), [0, 5, 1, 1, 0])

    def test_wrong_numbers(self):
        setting = [two(0, 15, 0, 0), two(15, OR, 0, 0)]
        wrong = [has(a, [0, 0, 0, 0]) for a in (16, 17, 2**32, LARGEST)]
        for many in (0, 1, 2, 3, 5, 8, 39, 40):
            wrong += [has(0, [0] * many), has(15, [LARGEST] * many), has(16, [1] * many)]
        for call in wrong:
            self.check_kept(setting, call, -1)
            # The call behind it is read as one.
            self.assertEqual(answered(*setting, call, has(15, [3, 2, 1, 0]))[2:], [[-1], [1]])
        self.assertEqual(last(*setting, has(15, [LARGEST] * 4)), 1)
