"""The calls of a line as one list of whole numbers, and what they answer."""

from stormgate.line import Line

BEGINS = 0
HOUR = 1
CHECK = 2
BEST = 3
SHUT = 4
STILL = 5


def answers(calls):
    """For each call, in order, how many numbers are answered, then these."""
    line = Line()
    answered = []
    at = 0
    while at < len(calls):
        behind = end_of_call(calls, at)
        answer = answer_of_call(line, calls, at, behind)
        answered.append(len(answer))
        answered.extend(answer)
        at = behind
    return answered


def end_of_call(calls, at):
    """The place behind the call that begins at this place.

    A call is its own number, then the numbers that it is handed; of check
    those of the plan have ahead of them how many there are.
    """
    if calls[at] == BEGINS:
        return at + 7
    if calls[at] == HOUR:
        return at + 4
    if calls[at] == CHECK:
        return at + 2 + calls[at + 1]
    return at + 1


def answer_of_call(line, calls, at, behind):
    """The numbers that the call between the two places answers."""
    if calls[at] == BEGINS:
        return line.begins(calls[at + 1:behind])
    if calls[at] == HOUR:
        return line.hour(calls[at + 1:behind])
    if calls[at] == CHECK:
        return line.check(calls[at + 2:behind])
    if calls[at] == BEST:
        return line.best()
    if calls[at] == SHUT:
        return line.shut()
    if calls[at] == STILL:
        return line.still()
    return line.needs()
