"""Why a call may be refused: one error class for each refusal."""


# Answered as -1: a number that is handed in is not one of those that the call takes.
class OutOfRange(ValueError):
    pass


# Answered as -7: a number was to be taken away, and too many sets of states are come to.
class TooManySets(ValueError):
    pass


# Answered as -6: the least machine of the set that was said has too many states.
class TooManyStates(ValueError):
    pass
