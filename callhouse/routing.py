"""What goes out for a message that comes, and where it goes."""

from callhouse.entries import OK, contact_line, entries_of, entries_there, last_first, place_row, registration
from callhouse.fields import values_named
from callhouse.hosts import address_of, endpoint_row
from callhouse.message import MAX_FORWARDS, VIA, hops_of, is_request
from callhouse.replies import received_row, reply_row
from callhouse.signs import codes, lines_row, sum_row, without_end_blanks

NOT_FOUND = "404 Not Found"
METHOD_NOT_ALLOWED = "405 Method Not Allowed"
TOO_MANY_HOPS = "483 Too Many Hops"
BAD_GATEWAY = "502 Bad Gateway"


class Sending:
    # An empty row says that nothing goes out.
    def __init__(self, row, address, port):
        self.row = row
        self.address = address
        self.port = port


class Outcome:
    # The entries are those that the house keeps if the sending is not refused.
    def __init__(self, sending, entries):
        self.sending = sending
        self.entries = entries


def no_sending():
    return Sending([], 0, 0)


def message_outcome(house, message, source, now):
    if is_request(message):
        return request_outcome(house, message, source, now)
    return Outcome(answer_sending(house, message), house.entries)


def request_outcome(house, request, source, now):
    entries = entries_there(house.entries, now)
    if is_for_house_alone(house, request) and request.first.method == codes("REGISTER"):
        result = registration(house, request, now, entries)
        return Outcome(registration_sending(house, request, source, now, result), result.entries)
    return Outcome(request_sending(house, request, source, entries), entries)


def is_for_house_alone(house, request):
    target = request.first.target
    return house.owns(target) and target.word == []


def registration_sending(house, request, source, now, result):
    lines = []
    if result.status == OK:
        entries = entries_of(result.entries, request.receiver.target.word)
        lines = [contact_line(entry, now) for entry in last_first(entries)]
    return reply(house, request, source, result.status, lines)


def request_sending(house, request, source, entries):
    if is_for_house_alone(house, request):
        status = OK if request.first.method == codes("OPTIONS") else METHOD_NOT_ALLOWED
        return reply(house, request, source, status, [])
    # What is for the house alone never goes on, so no hop is asked of it.
    if hops_of(request) == 0:
        return reply(house, request, source, TOO_MANY_HOPS, [])
    target = request.first.target
    if house.owns(target):
        return sending_to_entry(house, request, source, entries_of(entries, target.word))
    endpoint = target.endpoint
    if endpoint.address is None:
        return reply(house, request, source, BAD_GATEWAY, [])
    return Sending(onward_row(house, request, source, target.row), endpoint.address, endpoint.port)


def sending_to_entry(house, request, source, entries):
    if entries == []:
        return reply(house, request, source, NOT_FOUND, [])
    place = last_first(entries)[0].place
    return Sending(onward_row(house, request, source, place_row(place)), place.address, place.port)


def reply(house, request, source, status, contact_lines):
    if request.first.method == codes("ACK") or request.first.method == codes("CANCEL"):
        return no_sending()
    row = reply_row(house, request, source, status, contact_lines)
    return Sending(row, source, request.vias[0].endpoint.port)


def onward_row(house, request, source, target):
    lines = [request.first.method + codes(" ") + target + codes(" SIP/2.0"), own_via_line(house, request)]
    lines.extend(onward_header_lines(request, source))
    lines.append([])
    return lines_row(lines) + request.body


def own_via_line(house, request):
    branch = sum_row(request.vias[0].branch + request.call_id + request.sequence)
    return codes("Via: SIP/2.0/UDP ") + endpoint_row(house.address, house.port) + codes(";branch=z9hG4bK") + branch


def onward_header_lines(request, source):
    received = received_row(request.vias[0], source)
    lines = []
    for header in request.headers:
        if header.kind == MAX_FORWARDS:
            lines.append(codes("Max-Forwards: " + str(hops_of(request) - 1)))
        elif header.kind == VIA and received != []:
            lines.append(without_end_blanks(header.line) + received)
            # Only the first Via's line gets it.
            received = []
        else:
            lines.append(header.line)
    return lines


def answer_sending(house, answer):
    first = answer.vias[0].endpoint
    if first.address != house.address or first.port != house.port or len(answer.vias) < 2:
        return no_sending()
    address = return_address(answer.vias[1])
    if address is None:
        return no_sending()
    return Sending(answer_row(answer), address, answer.vias[1].endpoint.port)


def return_address(via):
    for value in values_named(via.parameters, "received"):
        if address_of(value) is not None:
            return address_of(value)
    return via.endpoint.address


def answer_row(answer):
    kinds = [header.kind for header in answer.headers]
    lines = [header.line for header in answer.headers]
    lines.pop(kinds.index(VIA))
    return lines_row([answer.first.line] + lines + [[]]) + answer.body
