"""Datagrams and the beginnings of packets, as rows of bytes."""

HEADER = 8
# In all totals: which sort of packet carries datagrams.
CARRIED_AS = 2
ROUND = 65535

PACKET_START = 24
PACKET_FIRST = 81


def number_at(row, at, size):
    """The number that stands in size bytes of the row, the highest first."""
    number = 0
    for byte in row[at:at + size]:
        number = number * 256 + byte
    return number


def written_bytes(number, size):
    """The lowest size bytes of the number, the highest first."""
    return [(number >> (8 * place)) & 255 for place in range(size - 1, -1, -1)]


def two_by_two(row):
    """The total of the row's numbers of 16 bits; a last byte alone is a higher half."""
    return sum(row[0::2]) * 256 + sum(row[1::2])


def whole_total(from_address, to_address, row):
    """The total of a datagram that is the whole row."""
    ahead = written_bytes(from_address, 4) + written_bytes(to_address, 4)
    ahead = ahead + written_bytes(CARRIED_AS, 2) + written_bytes(len(row), 2)
    return two_by_two(ahead) + two_by_two(row)


def datagram(from_place, to_place, body):
    """The datagram's bytes from an address and port to another."""
    length = HEADER + len(body)
    ahead = written_bytes(from_place[1], 2) + written_bytes(to_place[1], 2) + written_bytes(length, 2)
    without = whole_total(from_place[0], to_place[0], ahead + [0, 0] + body)
    # A rest of 0 leaves 65535, so a sum is never 0.
    return ahead + written_bytes(ROUND - without % ROUND, 2) + body


def is_datagram(from_address, to_address, row):
    """Whether the bytes are a datagram; what's behind its length isn't looked at."""
    if len(row) < HEADER:
        return False
    length = number_at(row, 4, 2)
    if length < HEADER or length > len(row) or number_at(row, 6, 2) == 0:
        return False
    return whole_total(from_address, to_address, row[:length]) % ROUND == 0


def port_from(row):
    return number_at(row, 0, 2)


def port_to(row):
    return number_at(row, 2, 2)


def body_of(row):
    return row[HEADER:number_at(row, 4, 2)]


def is_packet_start(row):
    """Whether the bytes are the beginning of a packet that carries a datagram, with both ports."""
    return len(row) >= PACKET_START and row[0] == PACKET_FIRST and row[2] == CARRIED_AS


def packet_from(row):
    """The address and port that the packet is from."""
    return (number_at(row, 12, 4), number_at(row, 20, 2))


def packet_to(row):
    """The address and port that the packet went to."""
    return (number_at(row, 16, 4), number_at(row, 22, 2))
