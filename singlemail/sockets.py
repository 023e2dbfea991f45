"""A socket, what waits in its queue, and when two sockets' places meet."""

# No peer has this place: a peer's address and port are never 0.
NO_PEER = (0, 0)


class Message:
    """A datagram that came: its sender is an address and a port, as a peer is."""

    def __init__(self, sender, to_address, body):
        self.sender = sender
        self.to_address = to_address
        self.body = body


class Socket:
    """A socket without anything: an address of 0 is any, a port of 0 is none."""

    def __init__(self):
        self.address = 0
        self.port = 0
        self.peer = NO_PEER
        self.hears = 0
        self.queue = []


def meets(socket, address, port):
    """Whether the socket's place meets the one at this address and port."""
    if port == 0 or socket.port != port:
        return False
    return socket.address == address or socket.address == 0 or address == 0


def drop_others(socket):
    """Leave in the socket's queue only what came from its peer."""
    socket.queue = [message for message in socket.queue if message.sender == socket.peer]
