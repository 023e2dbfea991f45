"""A list of calls, read one behind another, and what they answer."""

from singlemail.answer import plain, written
from singlemail.machine import Machine

BEGINS = 0
OPENS = 1
CLOSE = 2
BIND = 3
CONNECT = 4
HEAR = 5
SEND = 6
CAME = 7
PROBLEM = 8
TAKE = 9

# By a call's number: how many whole numbers stand behind it, ahead of its row.
HOW_MANY = (1, 0, 1, 3, 4, 2, 4, 2, 2, 2, 1)
WITH_A_ROW = (SEND, CAME, PROBLEM)


def answers(calls):
    """What each call answers, in order, each with how many numbers that is before it."""
    machine = Machine()
    given = []
    at = 0
    while at < len(calls):
        call = calls[at]
        behind = at + 1 + HOW_MANY[call]
        numbers = calls[at + 1:behind]
        row = []
        if call in WITH_A_ROW:
            begin = behind + 1
            behind = begin + calls[behind]
            row = calls[begin:behind]
        answered = written(called(machine, call, numbers, row))
        given.append(len(answered))
        given.extend(answered)
        at = behind
    return given


def called(machine, call, numbers, row):
    """What the call answers."""
    if call <= HEAR:
        return plain(called_for_a_number(machine, call, numbers))
    if call == SEND:
        return machine.send(numbers[0], numbers[1], numbers[2], numbers[3], row)
    if call == CAME:
        return machine.came(numbers[0], numbers[1], row)
    if call == PROBLEM:
        return machine.problem(numbers[0], numbers[1], row)
    if call == TAKE:
        return machine.take(numbers[0], numbers[1])
    # Only told, 10, is left.
    return machine.told(numbers[0])


def called_for_a_number(machine, call, numbers):
    """The number that a call answers behind which nothing is told and wanted."""
    if call == BEGINS:
        return machine.begins(numbers[0])
    if call == OPENS:
        return machine.opens()
    if call == CLOSE:
        return machine.close(numbers[0])
    if call == BIND:
        return machine.bind(numbers[0], numbers[1], numbers[2])
    if call == CONNECT:
        return machine.connect(numbers[0], numbers[1], numbers[2], numbers[3])
    # Only hear, 5, is left.
    return machine.hear(numbers[0], numbers[1])
