"""The entries that a house keeps, oldest kept first, and how a REGISTER changes them."""

from callhouse.fields import values_named
from callhouse.hosts import target_row
from callhouse.message import MOST_NUMBER_DIGITS, expires_of, sequence_number
from callhouse.signs import codes, is_digits, number_of

MOST_ENTRIES = 256
LATEST = 4294967295
USUAL_SPAN = 3600

OK = "200 OK"
BAD_REQUEST = "400 Bad Request"
SERVICE_UNAVAILABLE = "503 Service Unavailable"


class Entry:
    # An entry is never changed once it is made, so lists of entries can share them.
    def __init__(self, whom, place, until, call_id, number):
        self.whom = whom
        self.place = place
        self.until = until
        self.call_id = call_id
        self.number = number


class Place:
    def __init__(self, word, address, port):
        self.word = word
        self.address = address
        self.port = port


class Registration:
    def __init__(self, status, entries):
        self.status = status
        self.entries = entries


def entries_there(entries, now):
    return [entry for entry in entries if entry.until > now]


def entries_of(entries, whom):
    return [entry for entry in entries if entry.whom == whom]


def last_first(entries):
    return list(reversed(entries))


def place_row(place):
    return target_row(place.word, place.address, place.port)


def is_same_place(place, other):
    return place.word == other.word and place.address == other.address and place.port == other.port


def registration(house, request, now, entries):
    if is_bad(house, request, entries):
        return Registration(BAD_REQUEST, entries)
    # At the latest time there is, what a Contact makes is over at once: it is neither counted nor kept.
    changed = entries_there(changed_entries(request, now, entries), now)
    if len(changed) > MOST_ENTRIES:
        return Registration(SERVICE_UNAVAILABLE, entries)
    return Registration(OK, changed)


def is_bad(house, request, entries):
    target = request.receiver.target
    if target.word == [] or not house.owns(target):
        return True
    return not has_fit_contacts(request) or comes_too_late(request, entries_of(entries, target.word))


def has_fit_contacts(request):
    if has_star(request):
        return is_clearing(request)
    return all([contact.target.endpoint.address is not None for contact in request.contacts])


def has_star(request):
    return any([contact.target is None for contact in request.contacts])


def is_clearing(request):
    return has_star(request) and len(request.contacts) == 1 and expires_of(request) == 0


def comes_too_late(request, entries):
    number = sequence_number(request)
    return any([entry.call_id == request.call_id and entry.number >= number for entry in entries])


def changed_entries(request, now, entries):
    whom = request.receiver.target.word
    if is_clearing(request):
        return [entry for entry in entries if entry.whom != whom]
    changed = entries
    for contact in request.contacts:
        place = contact_place(contact)
        changed = [entry for entry in changed if entry.whom != whom or not is_same_place(entry.place, place)]
        span = contact_span(contact, request)
        if span > 0:
            until = min(now + span, LATEST)
            changed.append(Entry(whom, place, until, request.call_id, sequence_number(request)))
    return changed


def contact_place(contact):
    endpoint = contact.target.endpoint
    return Place(contact.target.word, endpoint.address, endpoint.port)


def contact_span(contact, request):
    for value in values_named(contact.parameters, "expires"):
        if is_digits(value, MOST_NUMBER_DIGITS):
            return number_of(value)
    expires = expires_of(request)
    return USUAL_SPAN if expires is None else expires


def contact_line(entry, now):
    return codes("Contact: <") + place_row(entry.place) + codes(">;expires=" + str(entry.until - now))


def list_line(entry, now):
    return entry.whom + codes(" ") + place_row(entry.place) + codes(" " + str(entry.until - now) + "\n")
