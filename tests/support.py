"""What the tests share: calls as lists of numbers, messages as bytes, and answers taken apart."""

from callhouse.house import answers

OWN = "10.0.0.1"
PHONE = "10.0.0.9"
ROOM = 65536
END = b"\r\n"


def address(text):
    number = 0
    for part in text.split("."):
        number = number * 256 + int(part)
    return number


def begin(name="House.Example", host=OWN, port=5060):
    row = list(name.encode("latin-1"))
    return [0, address(host), port, len(row)] + row


def packet(data, host=PHONE, port=4000, now=100, most=ROOM):
    return [1, address(host), port, now, most, len(data)] + list(data)


def listing(now=100, most=ROOM):
    return [2, now, most]


def apart(given):
    """The answers of one list of calls, each a list of numbers."""
    rows = []
    at = 0
    while at < len(given):
        rows.append(given[at + 1:at + 1 + given[at]])
        at += 1 + given[at]
    assert at == len(given)
    return rows


def run(*calls):
    joined = []
    for call in calls:
        joined.extend(call)
    rows = apart(answers(joined))
    assert len(rows) == len(calls)
    return rows


def after_begin(*calls):
    """The answers of calls on a house that has begun."""
    rows = run(begin(), *calls)
    assert rows[0] == [0]
    return rows[1:]


def sent(row):
    """What a packet's answer sends: the bytes, the address as a text, the port; None if nothing goes out."""
    if row == [0]:
        return None
    assert row[0] == len(row) - 3 and row[0] > 0, row[:3]
    dotted = ".".join(str(row[1] >> shift & 255) for shift in (24, 16, 8, 0))
    return bytes(row[3:]), dotted, row[2]


def listed(row):
    assert row[0] == len(row) - 1, row[:3]
    return bytes(row[1:]).decode("ascii")


def message(*lines, body=b""):
    return b"".join(line.encode("latin-1") + END for line in lines) + END + body


def request_lines(method="INVITE", target="sip:10.0.0.7", via="SIP/2.0/UDP 10.0.0.9;branch=z9hG4bKa",
                  to="<sip:bob@house.example>", sender="<sip:al@house.example>;tag=1", call="call1", number="1",
                  hops="70"):
    return [
        f"{method} {target} SIP/2.0",
        f"Via: {via}",
        f"From: {sender}",
        f"To: {to}",
        f"Call-ID: {call}",
        f"CSeq: {number} {method}",
        f"Max-Forwards: {hops}",
    ]


def request(*more, body=b"", **parts):
    return message(*request_lines(**parts), *more, body=body)


def registering(*more, **parts):
    """A REGISTER at the house, with header lines behind the needed ones."""
    parts.setdefault("method", "REGISTER")
    parts.setdefault("target", "sip:house.example")
    return request(*more, **parts)


def answer_lines(first="SIP/2.0 200 OK", own="SIP/2.0/UDP 10.0.0.1;branch=z9hG4bKown",
                 second="SIP/2.0/UDP 10.0.0.9:5070;branch=z9hG4bKa"):
    return [
        first,
        f"Via: {own}",
        f"Via: {second}",
        "From: <sip:al@house.example>;tag=1",
        "To: <sip:bob@house.example>;tag=2",
        "Call-ID: call1",
        "CSeq: 1 INVITE",
    ]


def answer(*more, body=b"", **parts):
    return message(*answer_lines(**parts), *more, body=body)


def status(row):
    """The words of an answer's first line behind SIP/2.0, or None if nothing goes out."""
    going = sent(row)
    if going is None:
        return None
    first = going[0].split(END)[0].decode("ascii")
    assert first.startswith("SIP/2.0 "), first
    return first[len("SIP/2.0 "):]


def contacts(row):
    """The Contact lines' values of an answer."""
    lines = sent(row)[0].split(END)
    return [line[len(b"Contact: "):].decode("ascii") for line in lines if line.startswith(b"Contact: ")]
