"""A packet's bytes read as a message: a request, an answer, or none."""

from callhouse.fields import contact_of, party_of, via_of
from callhouse.hosts import target_of
from callhouse.signs import (
    BLANK, COLON, DASH, LINE_END, begins, codes, is_digits, is_letter_or_digit, is_method, is_sign, number_of, place_of,
    small, split_at, without_blanks)

MOST_BYTES = 16384
MOST_HEADER_NAME_SIGNS = 32
MOST_CALL_ID_SIGNS = 128
MOST_NUMBER_DIGITS = 9
MOST_HOPS = 255
FORM = "SIP/2.0"

VIA = "via"
FROM = "from"
TO = "to"
CALL_ID = "call-id"
CONTACT = "contact"
CONTENT_LENGTH = "content-length"
CSEQ = "cseq"
MAX_FORWARDS = "max-forwards"
EXPIRES = "expires"
OTHER = ""

LONG_NAMES = ("via", "from", "to", "call-id", "contact", "content-length", "cseq", "max-forwards", "expires")
SHORT_NAMES = {"via": "v", "from": "f", "to": "t", "call-id": "i", "contact": "m", "content-length": "l"}


class First:
    # Of an answer, method is empty and target None.
    def __init__(self, line, method, target):
        self.line = line
        self.method = method
        self.target = target


class Header:
    def __init__(self, kind, line, value):
        self.kind = kind
        self.line = line
        self.value = value


class Message:
    # What is not as it must be stands as None here, or as an empty row, until is_fit has looked at it.
    def __init__(self, first, headers, body):
        self.first = first
        self.headers = headers
        self.body = body
        self.vias = [via_of(value) for value in values_of(headers, VIA)]
        self.sender = party_of(only_value(headers, FROM))
        self.receiver = party_of(only_value(headers, TO))
        self.contacts = [contact_of(value) for value in values_of(headers, CONTACT)]
        self.call_id = only_value(headers, CALL_ID)
        self.sequence = only_value(headers, CSEQ)


def message_of(row):
    if len(row) > MOST_BYTES:
        return None
    lines = head_lines(row)
    if lines == []:
        return None
    first = first_of(lines[0])
    headers = [header_of(line) for line in lines[1:]]
    if first is None or None in headers:
        return None
    message = Message(first, headers, row[head_size(lines):])
    return message if is_fit(message) else None


def head_lines(row):
    # The lines ahead of the empty one; none if there is no empty line, or another byte comes before it.
    lines = []
    start = 0
    end = line_end(row, 0)
    while end > start:
        lines.append(row[start:end])
        start = end + len(LINE_END)
        end = line_end(row, start)
    return lines if end == start else []


def line_end(row, start):
    at = start
    while at < len(row) and is_sign(row[at]):
        at = at + 1
    return at if row[at:at + len(LINE_END)] == list(LINE_END) else -1


def head_size(lines):
    return sum([len(line) + len(LINE_END) for line in lines]) + len(LINE_END)


def first_of(line):
    if begins(line, FORM + " "):
        return First(line, [], None) if is_answer_line(line) else None
    parts = split_at(line, BLANK)
    if len(parts) != 3 or not is_method(parts[0]) or parts[2] != codes(FORM):
        return None
    target = target_of(parts[1])
    return None if target is None else First(line, parts[0], target)


def is_answer_line(line):
    start = len(FORM) + 1
    digits = line[start:start + 3]
    if not is_digits(digits, 3) or line[start + 3:start + 4] != [BLANK]:
        return False
    return 100 <= number_of(digits) <= 699


def header_of(line):
    end = place_of(line, COLON)
    if not 1 <= end <= MOST_HEADER_NAME_SIGNS:
        return None
    name = line[:end]
    if not all([is_letter_or_digit(code) or code == DASH for code in name]):
        return None
    return Header(kind_of(small(name)), line, without_blanks(line[end + 1:]))


def kind_of(name):
    for kind in LONG_NAMES:
        if name == codes(kind) or name == codes(SHORT_NAMES.get(kind, kind)):
            return kind
    return OTHER


def values_of(headers, kind):
    return [header.value for header in headers if header.kind == kind]


def only_value(headers, kind):
    values = values_of(headers, kind)
    return values[0] if len(values) == 1 else []


def is_request(message):
    return message.first.method != []


def is_fit(message):
    if message.vias == [] or None in message.vias or None in message.contacts:
        return False
    if message.sender is None or message.receiver is None:
        return False
    if not is_call_id(message.call_id) or not is_sequence(message.sequence, message.first.method):
        return False
    if is_request(message) and not is_hops(only_value(message.headers, MAX_FORWARDS)):
        return False
    return has_fit_length(message) and has_fit_expires(message)


def is_call_id(row):
    return 1 <= len(row) <= MOST_CALL_ID_SIGNS and BLANK not in row


def is_sequence(row, request_method):
    parts = split_at(row, BLANK)
    if len(parts) != 2 or not is_digits(parts[0], MOST_NUMBER_DIGITS) or not is_method(parts[1]):
        return False
    return request_method == [] or parts[1] == request_method


def is_hops(row):
    return is_digits(row, 3) and number_of(row) <= MOST_HOPS


def has_fit_length(message):
    values = values_of(message.headers, CONTENT_LENGTH)
    if values == []:
        return True
    return len(values) == 1 and is_digits(values[0], MOST_NUMBER_DIGITS) and number_of(values[0]) == len(message.body)


def has_fit_expires(message):
    values = values_of(message.headers, EXPIRES)
    return values == [] or (len(values) == 1 and is_digits(values[0], MOST_NUMBER_DIGITS))


def sequence_number(message):
    return number_of(split_at(message.sequence, BLANK)[0])


def hops_of(request):
    return number_of(only_value(request.headers, MAX_FORWARDS))


def expires_of(message):
    value = only_value(message.headers, EXPIRES)
    return None if value == [] else number_of(value)
