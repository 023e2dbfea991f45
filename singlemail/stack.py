"""A list of calls, read one behind another, and what they answer."""

from singlemail.machine import Machine

BEGINS = 0
OPENS = 1
CLOSE = 2
BIND = 3
CONNECT = 4

# By a call's number: how many whole numbers stand behind it.
HOW_MANY = (1, 0, 1, 3, 4, 2)


def answers(calls):
    """What each call answers, in order, each with how many numbers that is before it."""
    machine = Machine()
    given = []
    at = 0
    while at < len(calls):
        call = calls[at]
        behind = at + 1 + HOW_MANY[call]
        answered = written(called(machine, call, calls[at + 1:behind]))
        given.append(len(answered))
        given.extend(answered)
        at = behind
    return given


def called(machine, call, numbers):
    """The number that the call answers."""
    if call == BEGINS:
        return machine.begins(numbers[0])
    if call == OPENS:
        return machine.opens()
    if call == CLOSE:
        return machine.close(numbers[0])
    if call == BIND:
        return machine.bind(numbers[0], numbers[1], numbers[2])
    if call == CONNECT:
        return machine.connect(numbers[0], numbers[1], numbers[2], numbers[3])
    # Only hear, 5, is left.
    return machine.hear(numbers[0], numbers[1])


def written(number):
    """A refusal stands alone; else the three counts follow: nothing told, no bytes, nothing wanted."""
    if number < 0:
        return [number]
    return [number, 0, 0, 0]
