"""The house and the calls on it."""

from callhouse.entries import entries_there, last_first, list_line
from callhouse.hosts import is_name, is_port
from callhouse.message import message_of
from callhouse.routing import message_outcome
from callhouse.signs import small

MOST_OUT = 65536

TOO_LITTLE_ROOM = -1
OUT_OF_RANGE = -2
NO_HOUSE = -9

BEGIN = 0
PACKET = 1


class House:
    # Its name is only ever compared or summed in small letters, so it is kept in them.
    def __init__(self, name, address, port):
        self.name = small(name)
        self.address = address
        self.port = port
        self.entries = []

    def owns(self, target):
        endpoint = target.endpoint
        if small(endpoint.host) == self.name:
            return True
        return endpoint.address == self.address and endpoint.port == self.port


class Desk:
    # house is None until the first begin that answers 0.
    def __init__(self):
        self.house = None

    def begin(self, address, port, name):
        if not is_name(name) or not is_port(port):
            return [OUT_OF_RANGE]
        self.house = House(name, address, port)
        return [0]

    def packet(self, source, source_port, now, most, row):
        house = self.house
        if house is None:
            return [NO_HOUSE]
        if not 0 <= most <= MOST_OUT or not is_port(source_port):
            return [OUT_OF_RANGE]
        message = message_of(row)
        if message is None:
            return [0]
        outcome = message_outcome(house, message, source, now)
        sending = outcome.sending
        if len(sending.row) > most:
            return [TOO_LITTLE_ROOM]
        house.entries = outcome.entries
        if sending.row == []:
            return [0]
        return [len(sending.row), sending.address, sending.port] + sending.row

    def listing(self, now, most):
        if self.house is None:
            return [NO_HOUSE]
        if not 0 <= most <= MOST_OUT:
            return [OUT_OF_RANGE]
        row = []
        for entry in last_first(entries_there(self.house.entries, now)):
            row.extend(list_line(entry, now))
        return [len(row)] + row if len(row) <= most else [TOO_LITTLE_ROOM]


def call_size(calls, at):
    if calls[at] == BEGIN:
        return 4 + calls[at + 3]
    if calls[at] == PACKET:
        return 6 + calls[at + 5]
    return 3


def call_answer(desk, call):
    if call[0] == BEGIN:
        return desk.begin(call[1], call[2], call[4:])
    if call[0] == PACKET:
        return desk.packet(call[1], call[2], call[3], call[4], call[6:])
    return desk.listing(call[1], call[2])


def answers(calls):
    desk = Desk()
    given = []
    at = 0
    while at < len(calls):
        size = call_size(calls, at)
        answer = call_answer(desk, calls[at:at + size])
        given.append(len(answer))
        given.extend(answer)
        at = at + size
    return given
