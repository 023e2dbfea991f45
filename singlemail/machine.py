"""The sockets of one machine, and the calls on them: each answers one number, below 0 if it refuses."""

from singlemail.sockets import NO_PEER, Socket, drop_others, meets

NOT_AS_TOLD = -1
NO_SUCH_SOCKET = -2
IN_THE_WAY = -4
NONE_FREE = -5

MOST_SOCKETS = 64
EVERYBODY = 4294967295
LAST_PORT = 65535
FIRST_GIVEN = 49152
GIVEN_PORTS = 16384


def port_of_round(number):
    """The port that a number stands for in the round of 49152 to 65535."""
    # 49152 is a multiple of 16384, so a port of the round stands for itself.
    return FIRST_GIVEN + number % GIVEN_PORTS


class Machine:
    """One stack: its sockets by their numbers, and the turn."""

    def __init__(self):
        self.sockets = {}
        self.turn = FIRST_GIVEN

    def begins(self, turn):
        self.sockets = {}
        self.turn = port_of_round(turn)
        return 0

    def opens(self):
        for number in range(MOST_SOCKETS):
            if number not in self.sockets:
                self.sockets[number] = Socket()
                return number
        return NONE_FREE

    def close(self, k):
        if k not in self.sockets:
            return NO_SUCH_SOCKET
        self.sockets.pop(k)
        return 0

    def bind(self, k, a, p):
        if a >= EVERYBODY or p > LAST_PORT:
            return NOT_AS_TOLD
        if k not in self.sockets:
            return NO_SUCH_SOCKET
        socket = self.sockets[k]
        if socket.port != 0 or self.is_met(k, a, p, NO_PEER):
            return IN_THE_WAY
        port = self.free_port() if p == 0 else p
        if port == 0:
            return NONE_FREE
        if p == 0:
            self.turn = port_of_round(port + 1)
        socket.address = a
        socket.port = port
        return port

    def connect(self, k, a, t, p):
        if a >= EVERYBODY or t >= EVERYBODY or p > LAST_PORT or (t == 0) != (p == 0):
            return NOT_AS_TOLD
        if k not in self.sockets:
            return NO_SUCH_SOCKET
        if t == 0:
            return self.let_peer_go(k)
        return self.take_peer(k, a, (t, p))

    def hear(self, k, b):
        if b != 0 and b != 1:
            return NOT_AS_TOLD
        if k not in self.sockets:
            return NO_SUCH_SOCKET
        self.sockets[k].hears = b
        return 0

    def let_peer_go(self, k):
        socket = self.sockets[k]
        if self.is_met(k, socket.address, socket.port, NO_PEER):
            return IN_THE_WAY
        socket.peer = NO_PEER
        return 0

    def take_peer(self, k, a, peer):
        socket = self.sockets[k]
        address = a if socket.address == 0 else socket.address
        port = self.free_port() if socket.port == 0 else socket.port
        if port == 0:
            return NONE_FREE
        if self.is_met(k, address, port, peer):
            return IN_THE_WAY
        # Only here is anything kept: a refusal must leave the turn and the place as they were.
        if socket.port == 0:
            self.turn = port_of_round(port + 1)
        socket.address = address
        socket.port = port
        socket.peer = peer
        drop_others(socket)
        return port

    def is_met(self, k, address, port, peer):
        """Whether a socket other than k, with just this peer, meets the place."""
        for number, other in self.sockets.items():
            if number != k and other.peer == peer and meets(other, address, port):
                return True
        return False

    def free_port(self):
        """The first port from the turn on and round that no socket has, or 0."""
        taken = {}
        for socket in self.sockets.values():
            taken[socket.port] = True
        for step in range(GIVEN_PORTS):
            port = port_of_round(self.turn + step)
            if port not in taken:
                return port
        return 0
