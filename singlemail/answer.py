"""What a call answers: a number, and what stands behind it where that's no refusal."""

PACKET_SENT = 0
ERROR_TOLD = 1
SOMETHING_NOW = 2


class Answer:
    """The number that's answered, the numbers told, the bytes, and the things wanted, each a list of numbers."""

    def __init__(self, number, figures, row, wanted):
        self.number = number
        self.figures = figures
        self.row = row
        self.wanted = wanted


def plain(number):
    """A refusal, or a number behind which nothing is told and wanted."""
    return Answer(number, [], [], [])


def packet_sent(from_address, to_address, row):
    return [PACKET_SENT, from_address, to_address, len(row)] + row


def error_told(from_address, to_address, row):
    return [ERROR_TOLD, from_address, to_address, len(row)] + row


def something_now(k):
    return [SOMETHING_NOW, k]


def written(answer):
    """The answer number by number: a refusal alone, else with the three counts."""
    if answer.number < 0:
        return [answer.number]
    numbers = [answer.number, len(answer.figures)] + answer.figures
    numbers.append(len(answer.row))
    numbers.extend(answer.row)
    numbers.append(len(answer.wanted))
    for thing in answer.wanted:
        numbers.extend(thing)
    return numbers
