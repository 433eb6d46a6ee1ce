"""What the house answers itself, line by line."""

from callhouse.fields import values_named
from callhouse.hosts import address_row
from callhouse.message import FROM, TO, VIA, only_value, values_of
from callhouse.signs import codes, lines_row, sum_row


def received_row(via, source):
    if via.endpoint.address == source:
        return []
    return codes(";received=") + address_row(source)


def reply_row(house, request, source, status, contact_lines):
    lines = [codes("SIP/2.0 " + status)]
    lines.extend(via_lines(request, source))
    lines.append(codes("From: ") + only_value(request.headers, FROM))
    lines.append(codes("To: ") + only_value(request.headers, TO) + tag_row(house, request))
    lines.append(codes("Call-ID: ") + request.call_id)
    lines.append(codes("CSeq: ") + request.sequence)
    lines.extend(contact_lines)
    lines.append(codes("Content-Length: 0"))
    lines.append([])
    return lines_row(lines)


def via_lines(request, source):
    lines = [codes("Via: ") + value for value in values_of(request.headers, VIA)]
    lines[0] = lines[0] + received_row(request.vias[0], source)
    return lines


def tag_row(house, request):
    if values_named(request.receiver.parameters, "tag") != []:
        return []
    return codes(";tag=") + sum_row(request.call_id + house.name)
