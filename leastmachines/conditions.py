"""The least machines of single conditions on a row's sum."""

from leastmachines.machines import LETTERS, VARIABLES, Walk, least_machine


# What each letter adds to the sum, if its bits were worth 1.
def letter_sums(factors):
    return [letter_sum(factors, letter) for letter in range(LETTERS)]


def letter_sum(factors, letter):
    return sum([factors[v] for v in range(VARIABLES) if letter >> v & 1])


# A state is what the sum of the bits still to come must be, the next bits being worth 1;
# None stands for what no bits can make good.
def equal_machine(b, factors):
    sums = letter_sums(factors)
    walk = Walk(b)
    while walk.goes_on():
        due = walk.current()
        walk.lead_on([due_after(due, part) for part in sums])
    return least_machine([1 if due == 0 else 0 for due in walk.met], walk.leads)


# All later bits are worth an even number, so an odd one is out of reach.
def due_after(due, part):
    if due is None or (due - part) % 2 == 1:
        return None
    return (due - part) // 2


# A state is what the sum of the bits still to come may be at most, the next bits being worth 1.
# Later bits are worth an even number, so halving downwards loses no row and lets none in.
def at_most_machine(b, factors):
    sums = letter_sums(factors)
    walk = Walk(b)
    while walk.goes_on():
        room = walk.current()
        walk.lead_on([(room - part) // 2 for part in sums])
    return least_machine([1 if room >= 0 else 0 for room in walk.met], walk.leads)


# A state is what the sum of the bits still to come must leave as rest by m,
# and what the next bits are worth, by m as well.
def rest_machine(m, b, factors):
    sums = letter_sums(factors)
    walk = Walk((b % m, 1 % m))
    while walk.goes_on():
        due = walk.current()[0]
        worth = walk.current()[1]
        walk.lead_on([((due - worth * part) % m, 2 * worth % m) for part in sums])
    return least_machine([1 if state[0] == 0 else 0 for state in walk.met], walk.leads)
