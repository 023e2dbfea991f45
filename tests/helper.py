"""Calls written as rows, what they answer split again call by call, and a machine's state to compare."""

from singlemail.machine import Machine
from singlemail.stack import answers

EVERYBODY = 4294967295
HUGE = 9223372036854775807


def begins(turn):
    return [0, turn]


def opens():
    return [1]


def close(k):
    return [2, k]


def bind(k, a, p):
    return [3, k, a, p]


def connect(k, a, t, p):
    return [4, k, a, t, p]


def hear(k, b):
    return [5, k, b]


def send(k, a, t, p, body):
    return [6, k, a, t, p, len(body)] + body


def came(f, t, row):
    return [7, f, t, len(row)] + row


def problem(kind, n, row):
    return [8, kind, n, len(row)] + row


def take(k, most):
    return [9, k, most]


def told(k):
    return [10, k]


def pairs(row):
    """The bytes two by two, a last one alone the higher half."""
    whole = row + [0] * (len(row) % 2)
    return [whole[at] * 256 + whole[at + 1] for at in range(0, len(whole), 2)]


def total(f, t, row, length=None):
    length = len(row) if length is None else length
    ahead = list(f.to_bytes(4, "big") + t.to_bytes(4, "big") + (2).to_bytes(2, "big") + length.to_bytes(2, "big"))
    return sum(pairs(ahead + row))


def datagram(f, p, t, q, body):
    """A datagram's bytes from address f and port p to address t and port q."""
    places = list(p.to_bytes(2, "big") + q.to_bytes(2, "big") + (8 + len(body)).to_bytes(2, "big"))
    rest = total(f, t, places + [0, 0] + body) % 65535
    return places + list((65535 - rest).to_bytes(2, "big")) + body


def arrives(f, p, t, q, body):
    """The call came, of such a datagram."""
    return came(f, t, datagram(f, p, t, q, body))


def packet(f, p, t, q):
    """The first 24 bytes of a packet, with numbers that tell nothing in the places that aren't looked at."""
    row = [81, 82, 2] + list(range(83, 92))
    return row + list(f.to_bytes(4, "big") + t.to_bytes(4, "big") + p.to_bytes(2, "big") + q.to_bytes(2, "big"))


def fails(kind, n, f, p, t, q):
    """The call problem, of such a packet."""
    return problem(kind, n, packet(f, p, t, q))


def line(rows):
    return [number for row in rows for number in row]


def split(given):
    """The answers of each call, without how many numbers they have."""
    found = []
    at = 0
    while at < len(given):
        behind = at + 1 + given[at]
        found.append(given[at + 1:behind])
        at = behind
    return found


def split_calls(calls):
    """The calls of a line, each as its row."""
    rows = []
    at = 0
    while at < len(calls):
        behind = at + 1 + (1, 0, 1, 3, 4, 2, 4, 2, 2, 2, 1)[calls[at]]
        if calls[at] in (6, 7, 8):
            behind = behind + 1 + calls[behind]
        rows.append(calls[at:behind])
        at = behind
    return rows


def parts(*rows):
    """What each call answers."""
    found = split(answers(line(rows)))
    assert len(found) == len(rows), found
    return found


def last(*rows):
    """What the last call answers."""
    return parts(*rows)[-1]


def firsts(*rows):
    """The number that each call answers, whatever stands behind it."""
    return [part[0] for part in parts(*rows)]


def numbers(*rows):
    """The number that each call answers; what stands behind it must be three counts of 0, or nothing."""
    found = parts(*rows)
    for part in found:
        assert part[1:] == ([] if part[0] < 0 else [0, 0, 0]), part
    return [part[0] for part in found]


def refused(before, row):
    """What the row answers behind those before it; all that calls can see must be as it would be without it."""
    looks = [told(k) for k in range(8)]
    looks += [take(k, 65536) for k in range(8) for step in range(3)]
    looks += [arrives(5, 6, EVERYBODY, 80, []), opens(), opens()]
    looks += [bind(k, 0, 0) for k in range(8)]
    found = parts(*before, row, *looks)
    answer = found.pop(len(before))
    assert found == parts(*before, *looks), answer
    return answer


def machine_with(sockets, turn=0):
    machine = Machine()
    machine.begins(turn)
    for number in range(sockets):
        assert machine.opens() == number
    return machine


def state(machine):
    """All that a machine keeps, as plain values that later calls don't reach."""
    sockets = {}
    for number, socket in machine.sockets.items():
        sockets[number] = (socket.address, socket.port, socket.peer, socket.hears, list(socket.queue), socket.error,
                           socket.lost)
    return machine.turn, sockets
