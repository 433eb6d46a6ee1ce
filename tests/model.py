"""The document read a second time, with Python's patterns in the place of loops: the tests compare both readings."""

import re

NUMBER = r"(?:25[0-5]|2[0-4][0-9]|1[0-9][0-9]|[1-9]?[0-9])"
ADDRESS = rf"{NUMBER}\.{NUMBER}\.{NUMBER}\.{NUMBER}"
HOST = r"[A-Za-z0-9](?:[A-Za-z0-9.-]{0,62}[A-Za-z0-9])?"
WORD = r"[A-Za-z0-9._+-]{1,64}"
TARGET = rf"sip:(?:(?P<word>{WORD})@)?(?P<host>{HOST})(?::(?P<port>[1-9][0-9]{{0,4}}))?"
PARAMETERS = rf"(?P<parameters>(?:;{WORD}(?:=[!#-+\--:=?-~]{{1,128}})?)*)"
VIA = rf"SIP/2\.0/UDP (?P<host>{HOST})(?::(?P<port>[1-9][0-9]{{0,4}}))?{PARAMETERS}"
PARTY = rf"(?:[ -;=?-~]* )?<{TARGET}>{PARAMETERS}"
SHORT = {"v": "via", "f": "from", "t": "to", "i": "call-id", "m": "contact", "l": "content-length"}


class Wrong(Exception):
    pass


def need(held):
    if not held:
        raise Wrong()


def matched(pattern, text):
    match = re.fullmatch(pattern, text)
    need(match)
    return match.groupdict()


def number_of(address):
    a, b, c, d = (int(part) for part in address.split("."))
    return a << 24 | b << 16 | c << 8 | d


def dotted(number):
    return f"{number >> 24}.{number >> 16 & 255}.{number >> 8 & 255}.{number & 255}"


def located(parts):
    parts["port"] = int(parts["port"] or 5060)
    need(parts["port"] < 65536)
    parts["address"] = number_of(parts["host"]) if re.fullmatch(ADDRESS, parts["host"]) else None
    if "parameters" in parts:
        pairs = [part.partition("=") for part in parts["parameters"].split(";")[1:]]
        parts["parameters"] = [(name.lower(), value) for name, mark, value in pairs]
    return parts


def named(parts, name):
    return [value for other, value in parts["parameters"] if other == name]


def party(text):
    return located(matched(PARTY, text))


def via(text):
    parts = located(matched(VIA, text))
    branches = named(parts, "branch")
    need(len(branches) == 1 and branches[0].startswith("z9hG4bK"))
    parts["branch"] = branches[0]
    return parts


class Message:
    def __init__(self, data):
        need(len(data) <= 16384)
        text = data.decode("latin-1")
        match = re.match(r"((?:[ -~]+\r\n)+)\r\n", text)
        need(match)
        self.body = text[match.end():]
        self.first, *self.lines = match.group(1).split("\r\n")[:-1]
        self.read_first()
        self.headers = []
        for line in self.lines:
            parts = matched(r"(?P<name>[A-Za-z0-9-]{1,32}): *(?P<value>.*?) *", line)
            name = parts["name"].lower()
            self.headers.append((SHORT.get(name, name), parts["value"]))
        self.read_headers()

    def read_first(self):
        self.method = None
        if not re.fullmatch(r"SIP/2\.0 [1-6][0-9]{2} .*", self.first):
            parts = located(matched(rf"(?P<method>[A-Z]{{1,16}}) (?P<target>{TARGET}) SIP/2\.0", self.first))
            self.method = parts["method"]
            self.target = parts

    def every(self, name):
        return [value for other, value in self.headers if other == name]

    def one(self, name, pattern, needed=True):
        values = self.every(name)
        if not values and not needed:
            return None
        need(len(values) == 1)
        matched(pattern, values[0])
        return values[0]

    def read_headers(self):
        self.vias = [via(value) for value in self.every("via")]
        need(self.vias)
        self.sender = self.one("from", ".*")
        party(self.sender)
        self.to = self.one("to", ".*")
        self.whom = party(self.to)
        self.call = self.one("call-id", "[!-~]{1,128}")
        self.sequence = self.one("cseq", "[0-9]{1,9} [A-Z]{1,16}")
        self.number = int(self.sequence.split()[0])
        if self.method is not None:
            need(self.sequence.split()[1] == self.method)
            self.hops = int(self.one("max-forwards", "[0-9]{1,3}"))
            need(self.hops <= 255)
        length = self.one("content-length", "[0-9]{1,9}", needed=False)
        need(length is None or int(length) == len(self.body))
        expires = self.one("expires", "[0-9]{1,9}", needed=False)
        self.expires = None if expires is None else int(expires)
        self.contacts = [None if value == "*" else party(value) for value in self.every("contact")]


def summed(text):
    total = 0xCBF29CE484222325
    for byte in text.encode("latin-1"):
        total = (total ^ byte) * 0x100000001B3 % 2 ** 64
    return f"{total:016x}"


def place(entry):
    user = entry["word"] + "@" if entry["word"] else ""
    return f"sip:{user}{dotted(entry['address'])}:{entry['port']}"


class House:
    def __init__(self, name, address, port):
        self.name, self.address, self.port, self.entries = name.lower(), address, port, []

    def owns(self, target):
        return target["host"].lower() == self.name or (target["address"], target["port"]) == (self.address, self.port)

    def packet(self, source, now, data):
        """The text, the address and the port that go out, or None; and the entries then."""
        try:
            message = Message(data)
        except Wrong:
            return None, self.entries
        if message.method is None:
            return self.backward(message), self.entries
        live = [entry for entry in self.entries if entry["until"] > now]
        going, entries = self.request(message, source, now, live)
        if isinstance(going, tuple) and going[0] is None:
            if message.method in ("ACK", "CANCEL"):
                return None, entries
            going = self.answered(message, source, going[1], going[2])
        return going, entries

    def request(self, message, source, now, live):
        target = message.target
        own, word = self.owns(target), target["word"]
        if message.hops == 0 and not (own and word is None):
            return (None, "483 Too Many Hops", ""), live
        if own and word is None:
            if message.method == "REGISTER":
                return self.enrol(message, now, live)
            return (None, "200 OK" if message.method == "OPTIONS" else "405 Method Not Allowed", ""), live
        if own:
            found = [entry for entry in live if entry["whom"] == word]
            if not found:
                return (None, "404 Not Found", ""), live
            return self.onward(message, source, place(found[-1]), found[-1]), live
        if target["address"] is None:
            return (None, "502 Bad Gateway", ""), live
        return self.onward(message, source, target["target"], target), live

    def enrol(self, message, now, live):
        whom = message.whom["word"]
        stars = message.contacts.count(None)
        clearing = message.contacts == [None] and message.expires == 0
        if (not whom or not self.owns(message.whom) or (stars and not clearing)
                or any(contact and contact["address"] is None for contact in message.contacts)
                or any(entry["whom"] == whom and entry["call"] == message.call and entry["number"] >= message.number
                       for entry in live)):
            return (None, "400 Bad Request", ""), live
        entries = [entry for entry in live if not clearing or entry["whom"] != whom]
        for contact in message.contacts if not clearing else []:
            entry = {key: contact[key] for key in ("word", "address", "port")}
            entries = [other for other in entries if other["whom"] != whom or place(other) != place(entry)]
            spans = [int(value) for value in named(contact, "expires") if re.fullmatch("[0-9]{1,9}", value)]
            span = (spans + [value for value in (message.expires, 3600) if value is not None])[0]
            if span:
                entry.update(whom=whom, until=min(now + span, 4294967295), call=message.call, number=message.number)
                entries.append(entry)
        entries = [entry for entry in entries if entry["until"] > now]
        if len(entries) > 256:
            return (None, "503 Service Unavailable", ""), live
        lines = "".join(f"Contact: <{place(entry)}>;expires={entry['until'] - now}\r\n" for entry in reversed(entries)
                        if entry["whom"] == whom)
        return (None, "200 OK", lines), entries

    def received(self, message, source):
        return "" if message.vias[0]["address"] == source else ";received=" + dotted(source)

    def answered(self, message, source, status, contacts):
        values = message.every("via")
        values[0] += self.received(message, source)
        tag = "" if named(message.whom, "tag") else ";tag=" + summed(message.call + self.name)
        text = (f"SIP/2.0 {status}\r\n" + "".join(f"Via: {value}\r\n" for value in values)
                + f"From: {message.sender}\r\nTo: {message.to}{tag}\r\nCall-ID: {message.call}\r\n"
                + f"CSeq: {message.sequence}\r\n{contacts}Content-Length: 0\r\n\r\n")
        return text, source, message.vias[0]["port"]

    def onward(self, message, source, target, to):
        branch = summed(message.vias[0]["branch"] + message.call + message.sequence)
        lines = list(message.lines)
        kinds = [kind for kind, value in message.headers]
        lines[kinds.index("max-forwards")] = f"Max-Forwards: {message.hops - 1}"
        received = self.received(message, source)
        if received:
            first = kinds.index("via")
            lines[first] = lines[first].rstrip(" ") + received
        own = f"Via: SIP/2.0/UDP {dotted(self.address)}:{self.port};branch=z9hG4bK{branch}"
        text = "\r\n".join([f"{message.method} {target} SIP/2.0", own] + lines) + "\r\n\r\n" + message.body
        return text, to["address"], to["port"]

    def backward(self, message):
        if len(message.vias) < 2 or (message.vias[0]["address"], message.vias[0]["port"]) != (self.address, self.port):
            return None
        told = [value for value in named(message.vias[1], "received") if re.fullmatch(ADDRESS, value)]
        address = number_of(told[0]) if told else message.vias[1]["address"]
        if address is None:
            return None
        lines = list(message.lines)
        lines.pop([kind for kind, value in message.headers].index("via"))
        return "\r\n".join([message.first] + lines) + "\r\n\r\n" + message.body, address, message.vias[1]["port"]

    def listing(self, now):
        return "".join(f"{entry['whom']} {place(entry)} {entry['until'] - now}\n" for entry in reversed(self.entries)
                       if entry["until"] > now)


def answers(calls):
    """calls are tuples here: their names, then what is handed in; the answers stand in lists."""
    house = None
    rows = []
    for kind, *given in calls:
        if kind == "begin":
            address, port, name = given
            fit = re.fullmatch(HOST, name) and not re.fullmatch(ADDRESS, name) and 0 < port < 65536
            house = House(name, address, port) if fit else house
            rows.append([0 if fit else -2])
        elif house is None:
            rows.append([-9])
        elif kind == "list":
            now, most = given
            row = list(house.listing(now).encode("latin-1"))
            rows.append([-2] if not 0 <= most <= 65536 else [-1] if len(row) > most else [len(row)] + row)
        else:
            source, port, now, most, data = given
            if not 0 <= most <= 65536 or not 0 < port < 65536:
                rows.append([-2])
                continue
            going, entries = house.packet(source, now, data)
            row = list(going[0].encode("latin-1")) if going else []
            if len(row) > most:
                rows.append([-1])
                continue
            house.entries = entries
            rows.append([len(row), going[1], going[2]] + row if going else [0])
    return rows
