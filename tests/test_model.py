import random
import unittest

import model
from callhouse.house import answers
from support import apart

HOSTS = ["house", "HOUSE", "House:9", "10.0.0.1", "10.0.0.1:5060", "10.0.0.1:99", "10.0.0.2", "10.0.0.2:99", "far",
         "10.0.0.9", "far:7", "10.0.0.256"]
ADDRESSES = ["10.0.0.1", "10.0.0.2", "10.0.0.2:99", "10.0.0.3", "10.0.0.9:5060"]
WORDS = ["", "", "bob@", "bob@", "Bob@", "al@", "a.b_c-d+e@"]
METHODS = ["REGISTER", "REGISTER", "REGISTER", "INVITE", "INVITE", "OPTIONS", "ACK", "CANCEL", "X"]
PARAMETERS = ["", "", "", ";x", ";x=1", ";tag=2", ";Tag", ";expires=5", ";expires=0", ";expires=x", ";EXPIRES=70;expires",
              ";received=10.0.0.4", ";received=far", ";received"]
TIMES = [0, 1, 100, 105, 110, 3700, 4294963695, 4294967294, 4294967295]
SPICE = list(b" :;=<>@,.-*\"\r\n\t0159aAzZ\x00\x7f\xff%_+/")


class Maker:
    def __init__(self, seed):
        self.random = random.Random(seed)

    def one(self, choices):
        return self.random.choice(choices)

    def chance(self, share):
        return self.random.random() < share

    def target(self, hosts=tuple(HOSTS)):
        return "sip:" + self.one(WORDS) + self.one(hosts)

    def via(self, hosts=tuple(HOSTS)):
        return f"SIP/2.0/UDP {self.one(hosts)}{self.one(PARAMETERS)};branch=z9hG4bK{self.one(['', 'a', 'b='])}{self.one(PARAMETERS)}"

    def line(self, names, value):
        return self.one(names) + ":" + " " * self.one([0, 1, 1, 3]) + value + " " * self.one([0, 0, 2])

    def party(self, target):
        return self.one(["", "", "A ", "\"x;y\"  "]) + f"<{target}>" + self.one(PARAMETERS)

    def head(self):
        method = self.one(METHODS)
        target = self.one(["sip:house", "sip:10.0.0.1"]) if method == "REGISTER" and self.chance(0.8) else self.target()
        whom = self.one(["sip:bob@house", "sip:Bob@10.0.0.1", "sip:bob@House:1"]) if self.chance(0.8) else self.target()
        answer = self.chance(0.15)
        vias = [self.line(["Via", "v", "VIA"], self.via(["10.0.0.1", "10.0.0.1:5060"] if answer else HOSTS))]
        vias += [self.line(["Via", "V"], self.via()) for more in range(self.one([0, 1, 2]))]
        lines = [self.line(["From", "f"], self.party(self.target())),
                 self.line(["To", "T"], self.party(whom)),
                 self.line(["Call-ID", "i"], self.one(["c1", "C1", "c2"])),
                 self.line(["CSeq", "CSEQ"], self.one(["1 ", "2 ", "03 ", "9 "]) + method),
                 self.line(["Max-Forwards"], self.one(["0", "1", "070", "255"]))]
        lines += [self.line(["Contact", "m"], self.contact()) for more in range(self.one([0, 1, 1, 2, 3]))]
        lines += [self.line(["Expires"], self.one(["0", "0", "10", "3600"]))] if self.chance(0.4) else []
        lines += [self.line(["Subject", "x"], self.one(["", "hello: you"]))] if self.chance(0.2) else []
        self.random.shuffle(lines)
        for via in reversed(vias):
            lines.insert(0 if self.chance(0.9) else self.random.randrange(len(lines)), via)
        if self.chance(0.06):
            at = self.random.randrange(len(lines))
            lines[at:at + 1] = [] if self.chance(0.5) else [lines[at], lines[at]]
        return [self.one(["SIP/2.0 200 OK", "SIP/2.0 180 "]) if answer else f"{method} {target} SIP/2.0"] + lines

    def contact(self):
        if self.chance(0.15):
            return "*"
        return self.party(self.target(ADDRESSES if self.chance(0.9) else HOSTS))

    def data(self):
        lines = self.head()
        body = self.one([b"", b"", b"a", b"\r\n\x00"])
        if self.chance(0.4):
            lines.append(self.line(["Content-Length", "l"], str(len(body) + self.one([0, 0, 0, 0, 0, 1]))))
        data = bytearray("".join(line + "\r\n" for line in lines).encode("latin-1") + b"\r\n" + body)
        while self.chance(0.2):
            at = self.random.randrange(len(data))
            spot = data[at:at + 1]
            data[at:at + 1] = self.one([b"", bytes([self.one(SPICE)]), spot + bytes([self.one(SPICE)]), spot + spot])
        return bytes(data)

    def call(self):
        now = self.one(TIMES)
        most = self.one([65536] * 30 + [-1, 0, 250, 300, 65537])
        if self.chance(0.03):
            return ("begin", 0x0A000001, self.one([5060, 5060, 0, 65536]), self.one(["House", "house", "-", "1.2.3.4"]))
        if self.chance(0.15):
            return ("list", now, most)
        return ("packet", self.one([0x0A000009, 0x0A000002]), self.one([5060] * 40 + [0, 65536]), now, most, self.data())


def numbers(calls):
    joined = []
    for kind, *given in calls:
        if kind == "list":
            joined += [2] + given
        else:
            row = list(given[-1].encode("latin-1") if kind == "begin" else given[-1])
            joined += [0 if kind == "begin" else 1] + given[:-1] + [len(row)] + row
    return joined


class Alike(unittest.TestCase):
    def test_both_readings_answer_the_same(self):
        for seed in range(300):
            maker = Maker(seed)
            calls = [("begin", 0x0A000001, 5060, "House")] + [maker.call() for more in range(20)]
            self.assertEqual(apart(answers(numbers(calls))), model.answers(calls), seed)


if __name__ == "__main__":
    unittest.main()
