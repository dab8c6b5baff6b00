import itertools

from helper import (AND, KINDS, LARGEST, OR, SMALL_ROWS, XOR, SetCase, answered, calls_for, every, hangs, has, last, line,
                    machine, machine_after, rest, small_rows_of, some, swap, two)


def hung_on(rows):
    """The variables in which two small rows differ alone, one of them in the set."""
    found = []
    for v in range(4):
        behind = {}
        for row in SMALL_ROWS:
            behind.setdefault(row[:v] + row[v + 1:], set()).add(row in rows)
        if {True, False} in behind.values():
            found.append(v)
    return found


# What hangs on no variable, by each of the calls: all rows and none.
ALL_ROWS = (
    [line(0, 0, 0, [0, 0, 0, 0])],
    [line(0, 1, 0, [-1, -2, -3, -4])],
    [rest(0, 1, 5, [1, 2, 3, 4])],
    [rest(0, 4, 4, [4, -4, 0, 4])],
    [two(0, 15, 3, 4)],
    [line(0, 1, 3, [1, -2, 0, 1]), line(1, 1, -4, [-1, 2, 0, -1]), two(0, OR, 0, 1)],
    [line(0, 1, -1, [1, 1, 1, -1]), some(0, 0, 3)],
    [line(0, 1, 0, [-1, 0, -3, 0]), every(0, 0, 2)],
    [rest(0, 2, 0, [2, 4, 0, 2]), swap(0, 0, 1, 3)],
)
NO_ROWS = (
    [],
    [line(0, 0, 1, [0, 0, 0, 0])],
    [line(0, 0, 5, [2, 4, -2, 4])],
    [line(0, 1, -1, [1, 2, 3, 4])],
    [rest(0, 4, 1, [2, 4, -2, 0])],
    [line(0, 0, 3, [1, 0, 0, 0]), two(0, XOR, 0, 0)],
    [line(0, 0, 3, [1, 0, 0, 0]), rest(1, 2, 0, [1, 0, 0, 0]), two(0, AND, 0, 1)],
    [line(0, 0, -1, [1, 1, 0, 0]), some(0, 0, 1)],
    [line(0, 0, 0, [1, -1, 0, 0]), every(0, 0, 1)],
    [line(0, 0, 1, [2, -4, 2, 0]), swap(0, 0, 1, 3)],
)


class HangsTest(SetCase):
    def check_hangs(self, setting, variables, a=0):
        if setting:
            self.check_taken(setting)
        self.assertEqual(answered(*setting, hangs(a))[-1], [len(variables), len(variables), *variables], setting)

    def test_each_kind_of_set(self):
        for formula in KINDS:
            self.check_hangs(calls_for(formula), hung_on(set(small_rows_of(formula))))

    def test_each_choice_of_variables(self):
        for many in range(5):
            for variables in itertools.combinations(range(4), many):
                factors = [1 if v in variables else 0 for v in range(4)]
                for call in (line(0, 0, 0, factors), line(0, 1, 9, factors), rest(0, 5, 1, factors)):
                    self.check_hangs([call], list(variables))

    def test_factors_that_count_for_nothing(self):
        # Four times a number, by 4, and twice a number, by 4, which counts by 2.
        self.check_hangs([rest(0, 4, 1, [4, 1, -4, 2])], [1, 3])
        self.check_hangs([rest(0, 6, 3, [4, 3, 3, 0])], [0, 1, 2])
        # Never, whatever the numbers are.
        self.check_hangs([line(0, 0, 1, [2, 4, 0, 2])], [])
        # Joined so that one condition counts no more.
        self.check_hangs([line(0, 1, 3, [1, 1, 0, 0]), line(1, 0, 9, [0, 0, 1, 0]), two(2, 12, 0, 1), two(3, 10, 0, 1)],
                         [0, 1], a=2)
        self.check_hangs([line(0, 1, 3, [1, 1, 0, 0]), line(1, 0, 9, [0, 0, 1, 0]), two(2, 12, 0, 1), two(3, 10, 0, 1)],
                         [2], a=3)

    def test_differences_among_large_numbers_alone(self):
        # Number 0 is 96 and number 3 is 100: small rows are none of it.
        self.check_hangs([line(0, 0, 96, [1, 0, 0, 0]), line(1, 0, 100, [0, 0, 0, 1]), two(0, AND, 0, 1)], [0, 3])
        self.check_hangs([line(0, 1, -100, [0, 0, -1, 0])], [2])
        # Number 2 counts only where number 1 is 64 or more.
        self.check_hangs([line(0, 1, -64, [0, -1, 0, 0]), line(1, 1, 0, [0, 0, 1, 0]), two(0, AND, 0, 1)], [1, 2])

    def test_some_and_all_take_variables_away(self):
        setting = [line(0, 0, 3, [1, 2, -1, -1])]
        for v in range(4):
            left = [w for w in range(4) if w != v]
            self.assertLessEqual(set(answered(*setting, some(1, 0, v), hangs(1))[-1][2:]), set(left))
            self.check_hangs([*setting, every(1, 0, v)], [], a=1)
        self.check_hangs([line(0, 1, 3, [1, 2, 1, 0]), some(1, 0, 1)], [0, 2], a=1)
        self.check_hangs([line(0, 1, 3, [1, -2, 1, 0]), every(1, 0, 1)], [0, 2], a=1)

    def test_swap_takes_variables_elsewhere(self):
        setting = [line(0, 1, 3, [1, 2, 0, 0])]
        exchanged = {(0, 1): [0, 1], (0, 2): [1, 2], (0, 3): [1, 3], (1, 2): [0, 2], (1, 3): [0, 3], (2, 3): [0, 1]}
        for (v, w), variables in exchanged.items():
            self.check_hangs([*setting, swap(9, 0, v, w)], variables, a=9)

    def test_what_hangs_on_no_variable_is_all_or_nothing(self):
        rows = [[0, 0, 0, 0], [1, 0, 0, 0], [0, 7, 2, 0], [3, 1, 4, 1], [LARGEST] * 4]
        for settings, belongs in ((ALL_ROWS, 1), (NO_ROWS, 0)):
            for setting in settings:
                self.check_hangs(setting, [])
                asking = [machine(0)] + [has(0, row) for row in rows]
                found = answered(*setting, *asking)[len(setting):]
                self.assertEqual(found, [[1, 17, belongs] + [0] * 16] + [[belongs]] * len(rows), setting)

    def test_one_state_just_if_it_hangs_on_none(self):
        for formula in KINDS:
            setting = calls_for(formula)
            states = len(machine_after(setting, 0)[0])
            self.assertEqual(states == 1, answered(*setting, hangs(0))[-1] == [0, 0], formula)

    def test_wrong_numbers(self):
        setting = [line(0, 1, 2, [1, 0, 2, 0]), rest(15, 5, 6, [1, 0, 0, 0])]
        for large in (16, 17, 31, 2**32, LARGEST):
            self.check_kept(setting, hangs(large), -1)
        self.assertEqual(last(hangs(16)), -1)

    def test_asking_changes_nothing(self):
        setting = [line(0, 1, 2, [1, 0, 2, 0]), rest(15, 5, 6, [1, 0, 0, 0])]
        self.assertEqual(answered(*setting, hangs(0), hangs(15), hangs(1), hangs(0))[2:],
                         [[2, 2, 0, 2], [1, 1, 0], [0, 0], [2, 2, 0, 2]])
