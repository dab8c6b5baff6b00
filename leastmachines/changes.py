"""The least machines of sets that are made from other sets."""

from leastmachines.machines import LETTERS, Machine, Walk, least_machine
from leastmachines.refusals import TooManySets

MOST_SETS = 200


def joined_machine(op, one, other):
    pairs = pairs_machine(op, one, other)
    return least_machine(pairs.ends, pairs.leads)


# A state is a pair: where the row is in the one machine, and where in the other.
# It's not the least machine, and may have more states than a register's may.
def pairs_machine(op, one, other):
    walk = Walk((0, 0))
    while walk.goes_on():
        pair = walk.current()
        walk.lead_on(list(zip(one.leads[pair[0]], other.leads[pair[1]])))
    return Machine([op >> (2 * one.ends[p] + other.ends[q]) & 1 for p, q in walk.met], walk.leads)


# A state is a set of the machine's states, rising: those that some bits of number v lead to.
def some_machine(machine, v):
    bit = 1 << v
    walk = Walk((0,))
    while walk.goes_on():
        states = walk.current()
        walk.lead_on([led_either_way(machine, states, letter, bit) for letter in range(LETTERS)])
        if len(walk.met) > MOST_SETS:
            raise TooManySets()
    ends = ends_by_more_bits(machine, bit)
    return least_machine([max([ends[state] for state in states]) for states in walk.met], walk.leads)


def led_either_way(machine, states, letter, bit):
    without = [machine.leads[state][letter] for state in states]
    exchanged = [machine.leads[state][letter ^ bit] for state in states]
    return tuple(sorted(set(without + exchanged)))


# Number v may have more bits than the other three: a row may also end where these bits alone
# lead on to an end. Such a way need not meet a state twice, so as many rounds as states do.
def ends_by_more_bits(machine, bit):
    ends = list(machine.ends)
    for turn in range(len(machine.leads)):
        ends = [max(ends[state], ends[row[0]], ends[row[bit]]) for state, row in enumerate(machine.leads)]
    return ends


# A row is in the set with each number just if it's not outside of the set with some number.
def all_machine(machine, v):
    return others_machine(some_machine(others_machine(machine), v))


# The rows that aren't in the machine's set: the same states, so the least machine again.
def others_machine(machine):
    return Machine([1 - end for end in machine.ends], machine.leads)


# The states are the same, but they may be met in another order.
def swapped_machine(machine, v, w):
    letters = [swapped_letter(letter, v, w) for letter in range(LETTERS)]
    walk = Walk(0)
    while walk.goes_on():
        row = machine.leads[walk.current()]
        walk.lead_on([row[letter] for letter in letters])
    return least_machine([machine.ends[state] for state in walk.met], walk.leads)


def swapped_letter(letter, v, w):
    if (letter >> v & 1) == (letter >> w & 1):
        return letter
    return letter ^ (1 << v) ^ (1 << w)
