"""What the tests share: writing calls, and working out sets by other ways than the program's."""

import functools
import itertools
import math
import unittest

from leastmachines.registers import answers

LARGEST = 9223372036854775807
MOST_CALLS = 40
AND = 8
OR = 14
XOR = 6
FIRST_ONLY = 4
SECOND_ONLY = 2
NEITHER = 1

# All rows of small numbers, in order.
SMALL_ROWS = list(itertools.product(range(5), repeat=4))

# Sets made by each of the calls that put a set, told as holds and calls_for take them.
KINDS = (
    ("line", 0, 3, (1, 0, 0, 0)),
    ("line", 0, 4, (1, 2, -1, 0)),
    ("line", 0, 2, (0, -3, 0, 2)),
    ("line", 0, 0, (1, 2, 3, 4)),
    ("line", 0, -1, (1, 1, 1, 1)),
    ("line", 1, 4, (2, 1, 1, 3)),
    ("line", 1, -3, (1, -2, 0, -1)),
    ("line", 1, 0, (0, 1, 0, -1)),
    ("line", 1, 0, (-1, 0, -4, 0)),
    ("rest", 3, 1, (1, 2, 0, 1)),
    ("rest", 8, 5, (1, 0, 4, 2)),
    ("rest", 2, 0, (0, 1, 2, -3)),
    ("rest", 4, 3, (0, 0, 2, 4)),
    ("two", AND, ("line", 1, 5, (1, 1, 1, 1)), ("rest", 3, 2, (1, 0, 2, 0))),
    ("two", OR, ("line", 0, 3, (0, 1, 0, 1)), ("line", 1, -2, (0, 0, -1, 0))),
    ("two", XOR, ("rest", 4, 2, (1, 3, 0, 0)), ("line", 1, 1, (-1, 0, 0, 2))),
    ("two", NEITHER, ("line", 1, 1, (1, 0, 0, 0)), ("rest", 2, 1, (0, 0, 0, 1))),
    ("some", ("line", 0, 2, (1, -3, 0, 0)), 1),
    ("some", ("two", AND, ("line", 1, 1, (-1, 2, 0, 1)), ("rest", 3, 2, (0, 1, 0, 0))), 1),
    ("some", ("two", FIRST_ONLY, ("line", 0, 4, (1, 0, 1, 1)), ("line", 1, 0, (0, 1, -1, 0))), 0),
    ("all", ("line", 1, 2, (1, -1, 0, -1)), 3),
    ("all", ("two", OR, ("rest", 2, 1, (0, 1, 1, 0)), ("line", 1, -1, (1, 0, -2, 0))), 2),
    ("all", ("line", 1, 9, (0, 0, 1, 0)), 2),
    ("swap", ("line", 1, 2, (1, -1, 2, -2)), 0, 3),
    ("swap", ("two", AND, ("line", 0, 5, (1, 1, 1, 0)), ("rest", 3, 1, (0, 1, 0, 0))), 1, 2),
    ("swap", ("some", ("line", 0, 1, (2, 1, -4, 0)), 0), 1, 3),
)


def line(r, k, b, a):
    return [0, r, k, b, len(a)] + list(a)


def rest(r, m, b, a):
    return [1, r, m, b, len(a)] + list(a)


def two(r, op, a, b):
    return [2, r, op, a, b]


def some(r, a, v):
    return [3, r, a, v]


def every(r, a, v):
    return [4, r, a, v]


def swap(r, a, v, w):
    return [5, r, a, v, w]


def has(a, x):
    return [6, a, len(x)] + list(x)


def first(a):
    return [7, a]


def count(a):
    return [8, a]


def hangs(a):
    return [9, a]


def machine(a):
    return [10, a]


def within(a, b):
    return [11, a, b]


def one_list(calls):
    return [number for call in calls for number in call]


def answered(*calls):
    """What is answered to each call, as a list of numbers."""
    given = answers(one_list(calls))
    parts = []
    place = 0
    while place < len(given):
        parts.append(given[place + 1:place + 1 + given[place]])
        place += 1 + given[place]
    if len(parts) != len(calls) or place != len(given) or [] in parts:
        raise AssertionError(f"not an answer for each call: {given}")
    return parts


def told(*calls):
    """What is answered to each call; all calls here answer one number."""
    parts = answered(*calls)
    if max(len(part) for part in parts) > 1:
        raise AssertionError(f"not one number for each call: {parts}")
    return [part[0] for part in parts]


def last(*calls):
    return told(*calls)[-1]


def asked(setting, questions):
    """What is answered to questions about the sets that the setting puts, by lists of at most 40 calls each."""
    room = MOST_CALLS - len(setting)
    parts = []
    for place in range(0, len(questions), room):
        parts += answered(*setting, *questions[place:place + room])[len(setting):]
    return parts


def single(r, spare, row):
    """Calls that put the set of one row, of numbers up to 100, into register r."""
    calls = []
    for v in range(4):
        factors = [0, 0, 0, 0]
        factors[v] = 1
        calls.append(line(spare if v else r, 0, row[v], factors))
        if v:
            calls.append(two(r, AND, r, spare))
    return calls


def contains(calls, a, row):
    """Whether the row is in a's set after the calls: just the empty set has one state and isn't all rows."""
    found = last(*calls, *single(15, 14, row), two(15, AND, 15, a))
    return found > 1


def machine_after(calls, a):
    """The machine of register a's set, as (ends, leads)."""
    given = answered(*calls, machine(a))[-1]
    if given[1] != 17 * given[0] or len(given) != 2 + given[1]:
        raise AssertionError(f"not a machine: {given}")
    states = [given[place:place + 17] for place in range(2, len(given), 17)]
    return tuple(state[0] for state in states), tuple(tuple(state[1:]) for state in states)


def reads(ends_and_leads, row):
    """Whether a row is in the set of a machine (ends, leads), as the document tells it."""
    ends, leads = ends_and_leads
    state = 0
    while any(row):
        state = leads[state][sum((row[v] & 1) << v for v in range(4))]
        row = [number >> 1 for number in row]
    return ends[state] == 1


def by_rests_of_rows(belongs, variables, depth):
    """The least machine (ends, leads) of a set that hangs on these variables alone, by asking for rows.

    Two beginnings of rows are one state if no ends of up to so many bits tell them apart.
    """
    ends_of_rows = list(itertools.product(range(2**depth), repeat=len(variables)))

    def sign(length, low):
        found = []
        for high in ends_of_rows:
            row = list(low)
            for v, number in zip(variables, high):
                row[v] += number << length
            found.append(belongs(row))
        return tuple(found)

    met = [(0, (0, 0, 0, 0))]
    numbers = {sign(*met[0]): 0}
    leads = []
    while len(leads) < len(met):
        length, low = met[len(leads)]
        by_bits = {}
        row = []
        for letter in range(16):
            bits = tuple((letter >> v & 1) if v in variables else 0 for v in range(4))
            if bits not in by_bits:
                following = (length + 1, tuple(low[v] + (bits[v] << length) for v in range(4)))
                found = sign(*following)
                if found not in numbers:
                    numbers[found] = len(met)
                    met.append(following)
                by_bits[bits] = numbers[found]
            row.append(by_bits[bits])
        leads.append(tuple(row))
    return tuple(int(belongs(list(low))) for length, low in met), tuple(leads)


def sets_of_states(ends_and_leads, v):
    """How many sets of states are come to, of a machine (ends, leads) and a variable."""
    leads = ends_and_leads[1]
    start = frozenset([0])
    seen = {start}
    waiting = [start]
    while waiting:
        states = waiting.pop()
        for letter in range(16):
            reached = frozenset(leads[q][x] for q in states for x in (letter, letter ^ (1 << v)))
            if reached not in seen:
                seen.add(reached)
                waiting.append(reached)
    return len(seen)


def total(a, row):
    return sum(a[v] * row[v] for v in range(4))


def holds(formula, row):
    """Whether a row is in a set, told as a nested tuple; some and all stand around formulas without them."""
    kind = formula[0]
    if kind == "line":
        k, b, a = formula[1:]
        return total(a, row) == b if k == 0 else total(a, row) <= b
    if kind == "rest":
        m, b, a = formula[1:]
        return (total(a, row) - b) % m == 0
    if kind == "two":
        op, one, other = formula[1:]
        return bool(op >> (2 * holds(one, row) + holds(other, row)) & 1)
    if kind == "swap":
        one, v, w = formula[1:]
        row = list(row)
        row[v], row[w] = row[w], row[v]
        return holds(one, row)
    one, v = formula[1:]
    turns = (holds(one, list(row[:v]) + [x] + list(row[v + 1:])) for x in range(enough(one, row)))
    return any(turns) if kind == "some" else all(turns)


@functools.cache
def small_rows_of(formula):
    """The rows of small numbers that are in a formula's set, in order."""
    return [row for row in SMALL_ROWS if holds(formula, row)]


def enough(formula, row):
    """So many numbers for one variable that larger ones tell nothing new.

    From there on each line's sum is on one side of its b or hangs on the variable no more,
    and the rests come round again.
    """
    lines = [0]
    rests = [1]
    waiting = [formula]
    while waiting:
        part = waiting.pop()
        if part[0] == "line":
            lines.append(abs(part[2]) + 4 * sum(row) + 1)
        elif part[0] == "rest":
            rests.append(part[1])
        else:
            waiting.extend(piece for piece in part[1:] if isinstance(piece, tuple))
    return max(lines) + math.lcm(*rests)


def calls_for(formula, r=0):
    """Calls that put a formula's set into register r; they use the registers from r on."""
    kind = formula[0]
    if kind == "line":
        return [line(r, *formula[1:])]
    if kind == "rest":
        return [rest(r, *formula[1:])]
    if kind == "two":
        op, one, other = formula[1:]
        return calls_for(one, r) + calls_for(other, r + 1) + [two(r, op, r, r + 1)]
    if kind == "swap":
        return calls_for(formula[1], r) + [swap(r, r, *formula[2:])]
    return calls_for(formula[1], r) + [(some if kind == "some" else every)(r, r, formula[2])]


class SetCase(unittest.TestCase):
    def check_taken(self, calls):
        """No call is refused, so that a test doesn't pass on sets that were never put."""
        self.assertGreater(min(told(*calls)), 0, calls)

    def check_machine(self, calls, a, belongs, variables, depth):
        """The machine after the calls is the one worked out by asking for rows."""
        self.check_taken(calls)
        wanted = by_rests_of_rows(belongs, variables, depth)
        self.assertEqual(machine_after(calls, a), wanted)
        return len(wanted[0])

    def check_rows(self, calls, a, belongs, rows):
        self.check_taken(calls)
        found = machine_after(calls, a)
        for row in rows:
            self.assertEqual(reads(found, row), bool(belongs(row)), (row, calls))

    def check_kept(self, setting, refused, refusal):
        """A refusal is answered, and leaves every register as it was."""
        self.check_taken(setting)
        self.assertEqual(last(*setting, refused), refusal)
        seen = [machine(a) for a in range(16)]
        self.assertEqual(answered(*setting, refused, *seen)[-16:], answered(*setting, *seen)[-16:])
