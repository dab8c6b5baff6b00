from helper import (AND, FIRST_ONLY, KINDS, LARGEST, NEITHER, OR, SMALL_ROWS, XOR, SetCase, answered, by_rests_of_rows,
                    calls_for, every, holds, last, line, machine, machine_after, reads, rest, small_rows_of, some, swap, two)


def met_in_order(leads):
    """The states as they are first met: state 0; then of state 0, 1 and so on, where the letters lead."""
    met = [0]
    for state in met:
        met += [to for to in dict.fromkeys(leads[state]) if to not in met]
    return met


def told_apart(ends, leads):
    """The pairs of states that some row tells apart."""
    states = range(len(ends))
    apart = {(p, q) for p in states for q in states if ends[p] != ends[q]}
    found = True
    while found:
        found = {(p, q) for p in states for q in states
                 if any((leads[p][x], leads[q][x]) in apart for x in range(16))} - apart
        apart |= found
    return apart


class MachineTest(SetCase):
    def check_least(self, setting):
        """As many states as were answered before, each come to and told apart from all others, in order."""
        self.check_taken(setting)
        ends, leads = machine_after(setting, 0)
        states = len(ends)
        self.assertEqual(answered(*setting, machine(0))[-1][:2], [states, 17 * states])
        self.assertEqual(set(ends) | {0, 1}, {0, 1})
        self.assertEqual(met_in_order(leads), list(range(states)), setting)
        self.assertEqual(len(told_apart(ends, leads)), states * (states - 1), setting)
        # Letter 0 leads from ends to ends, and from others to others.
        self.assertEqual([ends[row[0]] for row in leads], list(ends))
        return states

    def test_each_kind_of_set(self):
        for formula in KINDS:
            setting = calls_for(formula)
            states = self.check_least(setting)
            self.assertEqual(answered(*setting)[-1], [states])
            found = machine_after(setting, 0)
            self.assertEqual([row for row in SMALL_ROWS if reads(found, row)], small_rows_of(formula))

    def test_worked_out_by_asking_for_rows(self):
        sets = [
            ("line", 0, 5, (2, -1, 0, 0)),
            ("line", 1, 7, (0, 0, 3, 2)),
            ("rest", 6, 1, (0, 1, 0, 3)),
            ("two", XOR, ("line", 1, 2, (1, 0, -1, 0)), ("rest", 3, 1, (1, 0, 0, 0))),
            ("some", ("two", AND, ("line", 0, 3, (1, -2, 0, 1)), ("rest", 3, 1, (0, 1, 0, 0))), 1),
            ("all", ("two", OR, ("line", 1, 6, (1, -1, 0, 1)), ("rest", 2, 1, (0, 1, 0, 1))), 1),
            ("swap", ("line", 1, 4, (2, 0, 0, -1)), 0, 2),
        ]
        for formula in sets:
            setting = calls_for(formula)
            variables = tuple(answered(*setting, (9, 0))[-1][2:])
            self.assertIn(len(variables), (1, 2))
            self.check_machine(setting, 0, lambda row: holds(formula, row), variables, 4)

    def test_written_out_by_hand(self):
        self.assertEqual(answered(machine(0)), [[1, 17, 0] + [0] * 16])
        self.assertEqual(answered(two(0, 15, 0, 0), machine(0))[1], [1, 17, 1] + [0] * 16)
        # Number 0 is 1: begun; no more; all bits of 0 from here on.
        self.assertEqual(answered(line(0, 0, 1, [1, 0, 0, 0]), machine(0))[1],
                         [3, 51] + [0] + [1, 2] * 8 + [0] + [1] * 16 + [1] + [2, 1] * 8)
        # Number 3 is 1: letters 8 to 15 have its bit.
        self.assertEqual(answered(line(0, 0, 1, [0, 0, 0, 1]), machine(0))[1],
                         [3, 51] + [0] + [1] * 8 + [2] * 8 + [0] + [1] * 16 + [1] + [2] * 8 + [1] * 8)
        # Number 1 is even: letters 2, 3, 6, 7 and so on have its bit.
        self.assertEqual(answered(rest(0, 2, 0, [0, 1, 0, 0]), machine(0))[1],
                         [3, 51] + [1] + [1, 1, 2, 2] * 4 + [1] + [1] * 16 + [0] + [2] * 16)
        # Number 2 is at most number 3: bits 1 and 0 turn it to no, bits 0 and 1 back to yes.
        self.assertEqual(answered(line(0, 1, 0, [0, 0, 1, -1]), machine(0))[1],
                         [2, 34] + [1] + [0] * 4 + [1] * 4 + [0] * 8 + [0] + [1] * 8 + [0] * 4 + [1] * 4)

    def test_24_states(self):
        for setting in ([line(0, 0, 100, [-4, 1, 0, 0])], [line(0, 1, -99, [-4, -1, 0, 0])],
                        [line(0, 0, 100, [-4, 1, 0, 0]), two(0, NEITHER, 0, 0)],
                        [line(0, 0, 100, [-4, 1, 0, 0]), swap(0, 0, 0, 1)],
                        [line(0, 0, 100, [-4, 1, 0, 0]), some(0, 0, 3), every(0, 0, 2)]):
            self.assertEqual(self.check_least(setting), 24)
            self.assertEqual(len(answered(*setting, machine(0))[-1]), 2 + 24 * 17)

    def test_two_sets_are_the_same_just_if_their_machines_are(self):
        machines = [machine_after(calls_for(formula), 0) for formula in KINDS]
        rows = [small_rows_of(formula) for formula in KINDS]
        same = [(p, q) for p in range(len(KINDS)) for q in range(len(KINDS)) if machines[p] == machines[q]]
        self.assertEqual(same, [(p, q) for p in range(len(KINDS)) for q in range(len(KINDS)) if rows[p] == rows[q]])
        # Each and itself, and three of them that have no row.
        self.assertEqual(len(same), len(KINDS) + 6)

    def test_same_set_said_otherwise(self):
        pairs = [
            ([line(0, 0, 2, [1, 0, 0, 0])], [line(0, 0, -4, [-2, 0, 0, 0])]),
            ([line(0, 0, 6, [1, -1, 0, 0])],
             [line(0, 1, 6, [1, -1, 0, 0]), line(1, 1, -6, [-1, 1, 0, 0]), two(0, AND, 0, 1)]),
            ([rest(0, 6, 4, [1, 0, 0, 0])],
             [line(0, 0, 4, [1, -3, -3, 0]), some(0, 0, 1), some(0, 0, 2), rest(1, 2, 0, [1, 0, 0, 0]), two(0, AND, 0, 1),
              line(1, 0, 1, [1, 0, 0, 0]), two(0, FIRST_ONLY, 0, 1)]),
            ([line(0, 1, 4, [0, 0, 0, 1])], [line(0, 1, 4, [0, 1, -1, 0]), every(0, 0, 2), swap(0, 0, 3, 1)]),
            ([rest(0, 2, 1, [1, 0, 0, 0])], [line(0, 0, 1, [1, -2, 0, 0]), some(0, 0, 1)]),
        ]
        for one, other in pairs:
            self.assertEqual(answered(*one, machine(0))[-1], answered(*other, machine(0))[-1])

    def test_is_not_the_machine_of_how_it_was_made(self):
        # By way of 20 states, and then five again.
        setting = [line(0, 0, 5, [1, 0, 0, 0]), rest(1, 7, 3, [0, 1, 0, 0]), two(2, OR, 0, 1), two(0, FIRST_ONLY, 2, 1)]
        setting += [some(0, 0, 1)]
        self.assertEqual(machine_after(setting, 0), by_rests_of_rows(lambda row: row[0] == 5, (0,), 4))
        self.assertEqual(last(*setting), 5)

    def test_wrong_numbers(self):
        setting = [line(0, 1, 2, [1, 0, 2, 0]), rest(15, 5, 6, [1, 0, 0, 0])]
        for large in (16, 17, 31, 2**32, LARGEST):
            self.check_kept(setting, machine(large), -1)

    def test_each_register_has_its_own(self):
        setting = [rest(r, 1 + r % 8, r, [1, 0, 0, 0]) for r in range(16)]
        wanted = [answered(rest(0, 1 + r % 8, r, [1, 0, 0, 0]), machine(0))[1] for r in range(16)]
        self.assertEqual(answered(*setting, *[machine(r) for r in range(16)])[16:], wanted)
