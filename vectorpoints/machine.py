"""The interface: a list of calls on one new machine, and the list of their answers."""

from vectorpoints.operations import Machine, differ, load, new, peek, poke, run, save, turn


class NoSuchCall(ValueError):
    """A call whose number is not that of an operation."""


def answer_of(machine, call, numbers):
    """What the operation with this number answers."""
    if call == 0:
        return new(machine, numbers)
    if call == 1:
        return run(machine, numbers)
    if call == 2:
        return save(machine, numbers)
    if call == 3:
        return load(machine, numbers)
    if call == 4:
        return turn(numbers)
    if call == 5:
        return peek(machine, numbers)
    if call == 6:
        return poke(machine, numbers)
    if call == 7:
        return differ(numbers)
    raise NoSuchCall("no such call")


def answers(calls):
    """The answers of the calls, each behind how many numbers it has."""
    machine = Machine()
    given = []
    at = 0
    while at < len(calls):
        first = at + 2
        behind = first + calls[at + 1]
        answer = answer_of(machine, calls[at], calls[first:behind])
        given.append(len(answer))
        given.extend(answer)
        # Behind a call's numbers stands the count of its lists, which is always 0.
        at = behind + 1
    return given
