"""The sockets of one machine, and the calls on them: those up to hear answer one number, the others an Answer."""

from singlemail.answer import Answer, error_told, packet_sent, plain, something_now
from singlemail.datagrams import (body_of, datagram, is_datagram, is_packet_start, packet_from, packet_to, port_from,
                                  port_to)
from singlemail.sockets import (NO_PEER, Message, Socket, drop_others, fits, fits_at_any, get_message, has_something,
                                meets, rank, sent_there)

NOT_AS_TOLD = -1
NO_SUCH_SOCKET = -2
NO_DATAGRAM = -3
IN_THE_WAY = -4
NONE_FREE = -5
TOO_LONG = -7

MOST_SOCKETS = 64
EVERYBODY = 4294967295
LAST_PORT = 65535
FIRST_GIVEN = 49152
GIVEN_PORTS = 16384
LONGEST_BODY = 65507
LAST_KIND = 255
LAST_OF_ERROR = 4294967295
MOST_TAKEN = 65536


def port_of_round(number):
    """The port that a number stands for in the round of 49152 to 65535."""
    # 49152 is a multiple of 16384, so a port of the round stands for itself.
    return FIRST_GIVEN + number % GIVEN_PORTS


class Machine:
    """One stack: its sockets by their numbers, and the turn."""

    def __init__(self):
        self.sockets = {}
        self.turn = FIRST_GIVEN

    def begins(self, turn):
        self.sockets = {}
        self.turn = port_of_round(turn)
        return 0

    def opens(self):
        for number in range(MOST_SOCKETS):
            if number not in self.sockets:
                self.sockets[number] = Socket()
                return number
        return NONE_FREE

    def close(self, k):
        if k not in self.sockets:
            return NO_SUCH_SOCKET
        self.sockets.pop(k)
        return 0

    def bind(self, k, a, p):
        if a >= EVERYBODY or p > LAST_PORT:
            return NOT_AS_TOLD
        if k not in self.sockets:
            return NO_SUCH_SOCKET
        socket = self.sockets[k]
        if socket.port != 0 or self.is_met(k, a, p, NO_PEER):
            return IN_THE_WAY
        port = self.port_for(socket) if p == 0 else p
        if port == 0:
            return NONE_FREE
        if p == 0:
            self.give(socket, port)
        socket.address = a
        socket.port = port
        return port

    def connect(self, k, a, t, p):
        if a >= EVERYBODY or t >= EVERYBODY or p > LAST_PORT or (t == 0) != (p == 0):
            return NOT_AS_TOLD
        if k not in self.sockets:
            return NO_SUCH_SOCKET
        if t == 0:
            return self.let_peer_go(k)
        return self.take_peer(k, a, (t, p))

    def hear(self, k, b):
        if b != 0 and b != 1:
            return NOT_AS_TOLD
        if k not in self.sockets:
            return NO_SUCH_SOCKET
        self.sockets[k].hears = b
        return 0

    def send(self, k, a, t, p, body):
        if a >= EVERYBODY or t > EVERYBODY or p > LAST_PORT or (t == 0) != (p == 0):
            return plain(NOT_AS_TOLD)
        if k not in self.sockets:
            return plain(NO_SUCH_SOCKET)
        socket = self.sockets[k]
        # Just one of the two may say where to: the peer, or t and p.
        if (socket.peer == NO_PEER) == (t == 0):
            return plain(IN_THE_WAY)
        if len(body) > LONGEST_BODY:
            return plain(TOO_LONG)
        port = self.port_for(socket)
        if port == 0:
            return plain(NONE_FREE)
        self.give(socket, port)
        address = a if socket.address == 0 else socket.address
        to_place = socket.peer if t == 0 else (t, p)
        row = datagram((address, port), to_place, body)
        return Answer(0, [], [], [packet_sent(address, to_place[0], row)])

    def came(self, f, t, row):
        if f > EVERYBODY or t > EVERYBODY:
            return plain(NOT_AS_TOLD)
        if not is_datagram(f, t, row):
            return plain(NO_DATAGRAM)
        message = Message((f, port_from(row)), t, body_of(row))
        if t == EVERYBODY:
            return self.hand_over(self.hearing(message.sender, port_to(row)), message)
        best = self.best_fitting(message.sender, t, port_to(row))
        if best == []:
            return Answer(0, [], [], [error_told(f, t, row)])
        return self.hand_over(best, message)

    def problem(self, kind, n, row):
        if kind < 1 or kind > LAST_KIND or n > LAST_OF_ERROR:
            return plain(NOT_AS_TOLD)
        if not is_packet_start(row):
            return plain(NO_DATAGRAM)
        for k in sorted(self.sockets):
            socket = self.sockets[k]
            if sent_there(socket, packet_from(row), packet_to(row)):
                wanted = [] if has_something(socket) else [something_now(k)]
                socket.error = (kind, n)
                return Answer(1, [], [], wanted)
        return plain(0)

    def take(self, k, most):
        if most > MOST_TAKEN:
            return plain(NOT_AS_TOLD)
        if k not in self.sockets:
            return plain(NO_SUCH_SOCKET)
        socket = self.sockets[k]
        if socket.error is not None:
            figures = list(socket.error)
            socket.error = None
            return Answer(2, figures, [], [])
        if len(socket.queue) == 0:
            return plain(0)
        message = socket.queue.pop(0)
        figures = list(message.sender) + [message.to_address, len(message.body)]
        return Answer(1, figures, message.body[:most], [])

    def told(self, k):
        if k not in self.sockets:
            return plain(NO_SUCH_SOCKET)
        socket = self.sockets[k]
        place = [socket.address, socket.port] + list(socket.peer)
        return Answer(0, place + [len(socket.queue), socket.lost], [], [])

    def let_peer_go(self, k):
        socket = self.sockets[k]
        if self.is_met(k, socket.address, socket.port, NO_PEER):
            return IN_THE_WAY
        socket.peer = NO_PEER
        return 0

    def take_peer(self, k, a, peer):
        socket = self.sockets[k]
        address = a if socket.address == 0 else socket.address
        port = self.port_for(socket)
        if port == 0:
            return NONE_FREE
        if self.is_met(k, address, port, peer):
            return IN_THE_WAY
        # Only here is anything kept: a refusal must leave the turn and the place as they were.
        self.give(socket, port)
        socket.address = address
        socket.peer = peer
        drop_others(socket)
        return port

    def is_met(self, k, address, port, peer):
        """Whether a socket other than k, with just this peer, meets the place."""
        for number, other in self.sockets.items():
            if number != k and other.peer == peer and meets(other, address, port):
                return True
        return False

    def port_for(self, socket):
        """The port that the socket has, or would be given, or 0 if none is free."""
        return self.free_port() if socket.port == 0 else socket.port

    def free_port(self):
        """The first port from the turn on and round that no socket has, or 0."""
        taken = {}
        for socket in self.sockets.values():
            taken[socket.port] = True
        for step in range(GIVEN_PORTS):
            port = port_of_round(self.turn + step)
            if port not in taken:
                return port
        return 0

    def give(self, socket, port):
        """The socket has the port found for it; the turn goes on only if it had none."""
        if socket.port == 0:
            socket.port = port
            self.turn = port_of_round(port + 1)

    def hearing(self, sender, port):
        """The numbers of the sockets that get what came to everybody."""
        # By numbers: one opened anew stands last in the dict, whatever its number.
        return [k for k in sorted(self.sockets) if self.sockets[k].hears == 1
                and fits_at_any(self.sockets[k], sender, port)]

    def best_fitting(self, sender, address, port):
        """The number of the socket that gets what came to one address, alone in a list; none if nobody fits."""
        best = []
        for k in sorted(self.sockets):
            socket = self.sockets[k]
            if fits(socket, sender, address, port) and (best == [] or rank(socket) > rank(self.sockets[best[0]])):
                best = [k]
        return best

    def hand_over(self, getting, message):
        """Each of these sockets gets the message."""
        wanted = []
        for k in getting:
            if not has_something(self.sockets[k]):
                wanted.append(something_now(k))
            get_message(self.sockets[k], message)
        return Answer(len(getting), [], [], wanted)
