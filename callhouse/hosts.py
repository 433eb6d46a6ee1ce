"""Hosts, ports and targets: where something is, and how that is written."""

from callhouse.signs import (
    AT, COLON, DASH, POINT, begins, codes, is_letter_or_digit, is_plain_number, is_word, number_of, place_of, split_at)

MOST_NAME_SIGNS = 64
MOST_PORT = 65535
USUAL_PORT = 5060
TARGET_START = "sip:"


class Endpoint:
    # address is None where host is a name.
    def __init__(self, host, port):
        self.host = host
        self.address = address_of(host)
        self.port = port


class Target:
    # word is empty where there is none: a written word has one sign at least.
    def __init__(self, row, word, endpoint):
        self.row = row
        self.word = word
        self.endpoint = endpoint


def address_of(row):
    parts = split_at(row, POINT)
    if len(parts) != 4:
        return None
    address = 0
    for part in parts:
        if not is_plain_number(part, 3) or number_of(part) > 255:
            return None
        address = address * 256 + number_of(part)
    return address


def is_name(row):
    if not 1 <= len(row) <= MOST_NAME_SIGNS or address_of(row) is not None:
        return False
    if not is_letter_or_digit(row[0]) or not is_letter_or_digit(row[len(row) - 1]):
        return False
    return all([is_letter_or_digit(code) or code == DASH or code == POINT for code in row])


def is_port(number):
    return 1 <= number <= MOST_PORT


def endpoint_of(row):
    at = place_of(row, COLON)
    host = row if at < 0 else row[:at]
    port = USUAL_PORT if at < 0 else port_of(row[at + 1:])
    if not is_port(port) or (address_of(host) is None and not is_name(host)):
        return None
    return Endpoint(host, port)


def port_of(row):
    # 0 is no port, so it can stand for a row that is none.
    return number_of(row) if is_plain_number(row, 5) else 0


def target_of(row):
    if not begins(row, TARGET_START):
        return None
    rest = row[len(TARGET_START):]
    at = place_of(rest, AT)
    word = [] if at < 0 else rest[:at]
    if at >= 0 and not is_word(word):
        return None
    endpoint = endpoint_of(rest[at + 1:])
    if endpoint is None:
        return None
    return Target(row, word, endpoint)


def address_row(address):
    return codes(".".join([str((address >> shift) & 255) for shift in (24, 16, 8, 0)]))


def endpoint_row(address, port):
    return address_row(address) + codes(":" + str(port))


def target_row(word, address, port):
    user = [] if word == [] else word + codes("@")
    return codes(TARGET_START) + user + endpoint_row(address, port)
