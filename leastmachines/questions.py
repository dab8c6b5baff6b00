"""What is asked of a machine's set: is a row in it, which is the least, how many there are, what it hangs on."""

from leastmachines.machines import LETTERS, VARIABLES
from leastmachines.refusals import NoEnd, TooManyRows

MOST_ROWS = 9223372036854775807


# 1 if the row is in the machine's set, else 0.
def row_in(machine, row):
    state = 0
    numbers = row
    while max(numbers) > 0:
        state = machine.leads[state][lowest_letter(numbers)]
        numbers = [number >> 1 for number in numbers]
    return machine.ends[state]


def lowest_letter(numbers):
    return sum([(numbers[v] & 1) << v for v in range(VARIABLES)])


# The least row that is in the machine's set, or None. The machine need not be a least one.
# A row is kept as one whole number: its four numbers side by side, number 0 in the highest place,
# so that of two rows the lesser is the lesser whole number.
# A state met twice could be cut out of a row's way, which makes the row less: so the least row
# has fewer bits than there are states, and each number finds place in as many.
def least_row(machine):
    bits = len(machine.leads)
    no_row = 1 << (VARIABLES * bits)
    worths = [side_by_side(letter, bits) for letter in range(LETTERS)]
    rows = [0 if end == 1 else no_row for end in machine.ends]
    before = []
    while rows != before:
        before = rows
        rows = [least_from(row, before, leads, worths) for row, leads in zip(before, machine.leads)]
    if rows[0] == no_row:
        return None
    return numbers_of(rows[0], bits)


# The least row from a state on: the one that was known, or one of a letter and the least row from there on.
# Of two rows behind the same letter the lesser makes the lesser whole; no_row, doubled, is never the least.
def least_from(known, rows, leads, worths):
    return min([known] + [2 * rows[state] + worth for state, worth in zip(leads, worths)])


# The row whose numbers are the letter's bits.
def side_by_side(letter, bits):
    return sum([(letter >> v & 1) << place_of(v, bits) for v in range(VARIABLES)])


def numbers_of(row, bits):
    return [(row >> place_of(v, bits)) % (1 << bits) for v in range(VARIABLES)]


def place_of(v, bits):
    return bits * (VARIABLES - 1 - v)


# A row with as many bits as there are states meets a state twice, and what lies between may be read
# any number of times: then there's no end, and some of these rows have less than twice as many bits.
def count_rows(machine):
    short = with_more_bits(machine, machine.ends)
    longer = with_more_bits(machine, short)
    if longer[0] > short[0]:
        raise NoEnd()
    if short[0] > MOST_ROWS:
        raise TooManyRows()
    return short[0]


# counts: of each state, how many rows with numbers of so many bits lead from it to an end.
# Given back is the same of numbers with as many bits more as there are states.
def with_more_bits(machine, counts):
    found = counts
    for turn in range(len(machine.leads)):
        found = [sum([found[state] for state in row]) for row in machine.leads]
    return found


def variables_hung_on(machine):
    return [v for v in range(VARIABLES) if hangs_on(machine, v)]


# Two states of a least machine are told apart by some row, so it's enough that they're two.
def hangs_on(machine, v):
    return any([row != with_bit_exchanged(row, 1 << v) for row in machine.leads])


def with_bit_exchanged(row, bit):
    return tuple([row[letter ^ bit] for letter in range(LETTERS)])


# Of each state whether a row may end there, then where the letters lead.
def written_out(machine):
    numbers = []
    for end, row in zip(machine.ends, machine.leads):
        numbers.append(end)
        numbers.extend(row)
    return numbers
