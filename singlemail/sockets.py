"""A socket, what waits in its queue, when two sockets' places meet, and when a socket fits what came."""

# No peer has this place: a peer's address and port are never 0.
NO_PEER = (0, 0)

MOST_WAITING = 32
MOST_WEIGHT = 131072
# What each that waits weighs besides its body.
OWN_WEIGHT = 64


class Message:
    """A datagram that came: its sender is an address and a port, as a peer is."""

    def __init__(self, sender, to_address, body):
        self.sender = sender
        self.to_address = to_address
        self.body = body


class Socket:
    """A socket without anything: an address of 0 is any, a port of 0 is none; an error is its kind and n."""

    def __init__(self):
        self.address = 0
        self.port = 0
        self.peer = NO_PEER
        self.hears = 0
        self.queue = []
        self.error = None
        self.lost = 0


def meets(socket, address, port):
    """Whether the socket's place meets the one at this address and port."""
    if port == 0 or socket.port != port:
        return False
    return socket.address == address or socket.address == 0 or address == 0


def fits_at_any(socket, sender, port):
    """Whether the socket, its address aside, fits what came from the sender to this port."""
    # Without this, one that has no port would fit what came to port 0.
    if socket.port == 0:
        return False
    return socket.port == port and (socket.peer == NO_PEER or socket.peer == sender)


def fits(socket, sender, address, port):
    """Whether the socket fits what came from the sender to this address and port."""
    return has_address(socket, address) and fits_at_any(socket, sender, port)


def has_address(socket, address):
    return socket.address == 0 or socket.address == address


def rank(socket):
    """Higher is better among those that fit: a peer is worth more than an address."""
    by_peer = 0 if socket.peer == NO_PEER else 2
    by_address = 0 if socket.address == 0 else 1
    return by_peer + by_address


def sent_there(socket, from_place, to_place):
    """Whether what went from the one place to the other is the socket's, and its peer is there."""
    # A socket without a peer must not be found by what went to address 0 and port 0.
    if socket.peer == NO_PEER or socket.peer != to_place:
        return False
    return socket.port == from_place[1] and has_address(socket, from_place[0])


def has_something(socket):
    """Whether there is anything to take."""
    return socket.error is not None or len(socket.queue) > 0


def weight(message):
    return OWN_WEIGHT + len(message.body)


def has_room(socket, message):
    if len(socket.queue) >= MOST_WAITING:
        return False
    return sum([weight(waiting) for waiting in socket.queue]) + weight(message) <= MOST_WEIGHT


def get_message(socket, message):
    """The message waits behind all others, or one more is lost."""
    if has_room(socket, message):
        socket.queue.append(message)
    else:
        socket.lost = socket.lost + 1


def drop_others(socket):
    """Leave in the socket's queue only what came from its peer."""
    socket.queue = [message for message in socket.queue if message.sender == socket.peer]
