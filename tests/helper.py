"""Calls written as rows, what they answer split again call by call, and a machine's state to compare."""

from singlemail.machine import Machine
from singlemail.stack import answers

EVERYBODY = 4294967295
HUGE = 9223372036854775807


def begins(turn):
    return [0, turn]


def opens():
    return [1]


def close(k):
    return [2, k]


def bind(k, a, p):
    return [3, k, a, p]


def connect(k, a, t, p):
    return [4, k, a, t, p]


def hear(k, b):
    return [5, k, b]


def line(rows):
    return [number for row in rows for number in row]


def split(given):
    """The answers of each call, without how many numbers they have."""
    parts = []
    at = 0
    while at < len(given):
        behind = at + 1 + given[at]
        parts.append(given[at + 1:behind])
        at = behind
    return parts


def numbers(*rows):
    """The number that each call answers; what stands behind it must be three counts of 0, or nothing."""
    parts = split(answers(line(rows)))
    assert len(parts) == len(rows), parts
    for part in parts:
        assert part[1:] == ([] if part[0] < 0 else [0, 0, 0]), part
    return [part[0] for part in parts]


def machine_with(sockets, turn=0):
    machine = Machine()
    machine.begins(turn)
    for number in range(sockets):
        assert machine.opens() == number
    return machine


def state(machine):
    """All that a machine keeps, as plain values that later calls don't reach."""
    sockets = {}
    for number, socket in machine.sockets.items():
        sockets[number] = (socket.address, socket.port, socket.peer, socket.hears, list(socket.queue))
    return machine.turn, sockets
