"""Machines that read the bits of a row's four numbers, lowest first, and the least of them."""

from leastmachines.refusals import TooManyStates

VARIABLES = 4
LETTERS = 16
MOST_STATES = 24


# ends: of each state 1 if a row may end there, else 0.
# leads: of each state the sixteen states to which the letters lead.
class Machine:
    def __init__(self, ends, leads):
        self.ends = tuple(ends)
        self.leads = tuple(leads)


# Walks from one state on to all that are come to, and numbers them as they are first met.
# The states that are met may be of any kind that a dict takes as its key.
class Walk:
    def __init__(self, start):
        self.met = [start]
        self.numbers = {start: 0}
        self.leads = []

    def goes_on(self):
        return len(self.leads) < len(self.met)

    def current(self):
        return self.met[len(self.leads)]

    # Says where the letters lead from the current state, and goes on to the next one.
    def lead_on(self, states):
        self.leads.append(tuple([self.number_of(state) for state in states]))

    def number_of(self, state):
        if state not in self.numbers:
            self.numbers[state] = len(self.met)
            self.met.append(state)
        return self.numbers[state]


def empty_machine():
    return Machine([0], [tuple([0] * LETTERS)])


# The leads must be a walk's: each state is come to, and they are numbered as they are first met.
# A class gets its number at its first state, so the classes are numbered as they are first met, too.
def least_machine(ends, leads):
    classes = told_apart(ends, leads)
    firsts = [classes.index(number) for number in range(count_of(classes))]
    return Machine([ends[state] for state in firsts], [led_to(classes, leads[state]) for state in firsts])


# Each round only splits classes, so to have too many once is to have too many at last;
# and as each round but the last one finds a new class, there are few rounds.
def told_apart(ends, leads):
    found = 0
    classes = numbered(ends)
    while count_of(classes) > found:
        found = count_of(classes)
        if found > MOST_STATES:
            raise TooManyStates()
        classes = numbered([(classes[state], led_to(classes, leads[state])) for state in range(len(leads))])
    return classes


def led_to(classes, states):
    return tuple([classes[state] for state in states])


# Equal signs get equal numbers, given out from 0 on as the signs come.
def numbered(signs):
    numbers = {}
    for sign in signs:
        if sign not in numbers:
            numbers[sign] = len(numbers)
    return [numbers[sign] for sign in signs]


def count_of(classes):
    return max(classes) + 1
