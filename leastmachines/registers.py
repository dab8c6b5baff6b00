"""The sixteen registers, the calls on them, and the answers to a list of calls."""

from leastmachines.changes import all_machine, joined_machine, pairs_machine, some_machine, swapped_machine
from leastmachines.conditions import at_most_machine, equal_machine, rest_machine
from leastmachines.machines import VARIABLES, empty_machine
from leastmachines.questions import count_rows, least_row, row_in, variables_hung_on, written_out
from leastmachines.refusals import NoEnd, NoRow, OutOfRange, TooManyRows, TooManySets, TooManyStates

REGISTERS = 16
MOST_FACTOR = 4
MOST_B = 100
MOST_REST = 8
MOST_OP = 15
IN_THE_FIRST_ALONE = 4

LINE = 0
REST = 1
TWO = 2
SOME = 3
ALL = 4
SWAP = 5
HAS = 6
FIRST = 7
COUNT = 8
HANGS = 9
MACHINE = 10
WITHIN = 11

# Of each call, by its number: how many whole numbers it has, and how many lists behind them.
FIELDS = (3, 3, 4, 3, 3, 4, 1, 1, 1, 1, 1, 2)
LISTS = (1, 1, 0, 0, 0, 0, 1, 0, 0, 0, 0, 0)


def check_within(number, least, most):
    if number < least or number > most:
        raise OutOfRange()


def check_registers(numbers):
    for number in numbers:
        check_within(number, 0, REGISTERS - 1)


def check_variables(numbers):
    for number in numbers:
        check_within(number, 0, VARIABLES - 1)


def check_condition(b, factors):
    check_within(b, -MOST_B, MOST_B)
    check_within(len(factors), VARIABLES, VARIABLES)
    for factor in factors:
        check_within(factor, -MOST_FACTOR, MOST_FACTOR)


def with_list(number, numbers):
    return [number, len(numbers)] + numbers


# Each call checks its numbers first and puts its set last, so a refusal changes nothing.
class Registers:
    def __init__(self):
        self.machines = [empty_machine() for r in range(REGISTERS)]

    def put(self, r, machine):
        self.machines[r] = machine
        return [len(machine.ends)]

    def line(self, r, k, b, factors):
        check_registers([r])
        check_within(k, 0, 1)
        check_condition(b, factors)
        if k == 0:
            return self.put(r, equal_machine(b, factors))
        return self.put(r, at_most_machine(b, factors))

    def rest(self, r, m, b, factors):
        check_registers([r])
        check_within(m, 1, MOST_REST)
        check_condition(b, factors)
        return self.put(r, rest_machine(m, b, factors))

    def two(self, r, op, a, b):
        check_registers([r, a, b])
        check_within(op, 0, MOST_OP)
        return self.put(r, joined_machine(op, self.machines[a], self.machines[b]))

    def for_some(self, r, a, v):
        check_registers([r, a])
        check_variables([v])
        return self.put(r, some_machine(self.machines[a], v))

    def for_all(self, r, a, v):
        check_registers([r, a])
        check_variables([v])
        return self.put(r, all_machine(self.machines[a], v))

    def swap(self, r, a, v, w):
        check_registers([r, a])
        check_variables([v, w])
        return self.put(r, swapped_machine(self.machines[a], v, w))

    def has(self, a, row):
        check_registers([a])
        check_within(len(row), VARIABLES, VARIABLES)
        return [row_in(self.machines[a], row)]

    def first(self, a):
        check_registers([a])
        row = least_row(self.machines[a])
        if row is None:
            raise NoRow()
        return with_list(0, row)

    def row_count(self, a):
        check_registers([a])
        return [count_rows(self.machines[a])]

    def hangs(self, a):
        check_registers([a])
        variables = variables_hung_on(self.machines[a])
        return with_list(len(variables), variables)

    def machine(self, a):
        check_registers([a])
        return with_list(len(self.machines[a].ends), written_out(self.machines[a]))

    # The pairs' machine is only walked, so no limit of states holds for it.
    def within(self, a, b):
        check_registers([a, b])
        row = least_row(pairs_machine(IN_THE_FIRST_ALONE, self.machines[a], self.machines[b]))
        if row is None:
            return [1]
        return with_list(0, row)


# Reads numbers off the list that was handed in, which is left as it is.
class Reader:
    def __init__(self, calls):
        self.calls = calls
        self.place = 0

    def goes_on(self):
        return self.place < len(self.calls)

    def take(self):
        self.place = self.place + 1
        return self.calls[self.place - 1]

    def take_many(self, many):
        return [self.take() for turn in range(many)]


def called(registers, call, f, lists):
    if call > SWAP:
        return asked(registers, call, f, lists)
    if call == LINE:
        return registers.line(f[0], f[1], f[2], lists[0])
    if call == REST:
        return registers.rest(f[0], f[1], f[2], lists[0])
    if call == TWO:
        return registers.two(f[0], f[1], f[2], f[3])
    if call == SOME:
        return registers.for_some(f[0], f[1], f[2])
    if call == ALL:
        return registers.for_all(f[0], f[1], f[2])
    return registers.swap(f[0], f[1], f[2], f[3])


def asked(registers, call, f, lists):
    if call == HAS:
        return registers.has(f[0], lists[0])
    if call == FIRST:
        return registers.first(f[0])
    if call == COUNT:
        return registers.row_count(f[0])
    if call == HANGS:
        return registers.hangs(f[0])
    if call == MACHINE:
        return registers.machine(f[0])
    return registers.within(f[0], f[1])


# The whole call is read before anything is done, so that a refusal leaves the reader at the next one.
def answer(registers, reader):
    call = reader.take()
    fields = reader.take_many(FIELDS[call])
    lists = [reader.take_many(reader.take()) for turn in range(LISTS[call])]
    try:
        return called(registers, call, fields, lists)
    except OutOfRange:
        return [-1]
    except TooManySets:
        return [-7]
    except TooManyStates:
        return [-6]
    except TooManyRows:
        return [-6]
    except NoRow:
        return [-5]
    except NoEnd:
        return [-5]


def answers(calls):
    registers = Registers()
    reader = Reader(calls)
    given = []
    while reader.goes_on():
        told = answer(registers, reader)
        given.append(len(told))
        given.extend(told)
    return given
