"""Why a call may be refused: one error class for each refusal."""


# Answered as -1: a number that is handed in is not one of those that the call takes.
class OutOfRange(ValueError):
    pass


# Answered as -7: a number was to be taken away, and too many sets of states are come to.
class TooManySets(ValueError):
    pass


# Answered as -6: the least machine of the set that was said has too many states.
class TooManyStates(ValueError):
    pass


# Answered as -6: more rows are in a set than may be answered.
class TooManyRows(ValueError):
    pass


# Answered as -5: the least row was asked for, and no row is in the set.
class NoRow(ValueError):
    pass


# Answered as -5: the rows were to be counted, and there's no end to them.
class NoEnd(ValueError):
    pass
