import unittest

from support import END, after_begin, answer, answer_lines, message, packet, request, request_lines, sent

TARGETS_ALIKE = ["sip:1.2.3.4", "sip:u@1.2.3.4", "sip:1.2.3.4:1", "sip:u@1.2.3.4:65535", "sip:0.0.0.0",
                 "sip:255.255.255.255", "sip:" + "w" * 64 + "@1.2.3.4", "sip:a.b_c-d+9Z@1.2.3.4"]
TARGETS_WRONG = ["", "sip:", "1.2.3.4", "SIP:1.2.3.4", "sips:1.2.3.4", "sip:@1.2.3.4", "sip:u@", "sip:u@@1.2.3.4",
                 "sip:" + "w" * 65 + "@1.2.3.4", "sip:u*v@1.2.3.4", "sip:1.2.3.4:", "sip:1.2.3.4:0", "sip:1.2.3.4:01",
                 "sip:1.2.3.4:65536", "sip:1.2.3.4:100000", "sip:1.2.3.4:5x", "sip:u:p@1.2.3.4", "sip:1.2.3.4:5:6",
                 "sip:1.2.3.4;x=1", "sip:1.2.3.4?x", "sip:[1.2.3.4]", "sip:-a", "sip:a-", "sip:.a", "sip:a_b",
                 "sip:" + "n" * 65, "sip:1.2.3.4.", "sip:u@v@1.2.3.4"]


class Checked(unittest.TestCase):
    def takes(self, *datas):
        for data in datas:
            self.assertIsNotNone(sent(after_begin(packet(data))[0]), data[:300])

    def leaves(self, *datas):
        for data in datas:
            self.assertEqual(after_begin(packet(data)), [[0]], data[:300])

    def with_line(self, index, *values):
        """Requests whose header line at index (from request_lines) is each of values."""
        made = []
        for value in values:
            lines = request_lines()
            lines[index] = value
            made.append(message(*lines))
        return made


class Lines(Checked):
    def test_length(self):
        size = len(request())
        self.takes(request(body=b"x" * (16384 - size)))
        self.leaves(request(body=b"x" * (16385 - size)), request(body=b"x" * (28000 - size)))
        size = len(answer())
        self.takes(answer(body=b"x" * (16384 - size)))
        self.leaves(answer(body=b"x" * (16385 - size)))

    def test_ends_of_lines(self):
        data = request()
        self.leaves(data.replace(END, b"\n"), data.replace(END, b"\r"), data.replace(END, b"\n\r"))
        for at in range(len(data)):
            if data[at:at + 2] == END:
                self.leaves(data[:at] + data[at + 1:], data[:at + 1] + data[at + 2:])

    def test_the_empty_line_is_needed(self):
        data = request()
        self.leaves(data[:-2], data[:-1], data[:-4], b"", END, END + END, b"\r", b"x", END + data)

    def test_every_cut_is_left(self):
        data = request("Contact: <sip:a>")
        self.leaves(*[data[:at] for at in range(len(data))])

    def test_signs(self):
        for code in range(256):
            data = request("Subject: a" + bytes([code]).decode("latin-1") + "b")
            if 32 <= code <= 126:
                self.takes(data)
            else:
                self.leaves(data)

    def test_a_body_has_any_bytes(self):
        self.takes(request(body=bytes(range(256))), request(body=END + END), request(body=END + request()))
        data = request(body=bytes(range(256)))
        self.assertTrue(sent(after_begin(packet(data))[0])[0].endswith(END + END + bytes(range(256))))

    def test_blanks_alone_are_no_empty_line(self):
        self.leaves(request(" "), request("", body=b"")[:-4] + b" \r\n\r\n")


class FirstLine(Checked):
    def test_methods(self):
        for method in ("A", "INVITE", "X" * 16):
            self.takes(request(method=method))
        for method in ("", "X" * 17, "invite", "INVITe", "IN1", "IN-V", " INVITE"):
            self.leaves(request(method=method))

    def test_targets(self):
        self.takes(*[request(target=target) for target in TARGETS_ALIKE])
        self.takes(*[request(target=target) for target in ("sip:a", "sip:a.b-c", "sip:" + "n" * 64, "sip:u@1.2.3.04")])
        self.leaves(*[request(target=target) for target in TARGETS_WRONG])

    def test_request_form(self):
        first = request_lines()[0]
        self.takes(*self.with_line(0, first))
        self.leaves(*self.with_line(
            0, "", first + " ", " " + first, first.replace(" ", "  "), first.replace(" SIP", "SIP"), first + "x",
            first.replace("INVITE ", "INVITE"), first.replace("2.0", "2.1"), first.replace("SIP/2.0", "sip/2.0"),
            first.replace("SIP/2.0", ""), first.replace(" SIP/2.0", ""), "INVITE SIP/2.0", first + " SIP/2.0"))

    def test_answer_form(self):
        for first in ("SIP/2.0 100 ", "SIP/2.0 200 OK", "SIP/2.0 699 any signs ~!<>%", "SIP/2.0 200  ",
                      "SIP/2.0 404 Not Found"):
            self.takes(answer(first=first))
        for first in ("SIP/2.0 099 x", "SIP/2.0 700 x", "SIP/2.0 99 x", "SIP/2.0 1000 x", "SIP/2.0 200", "SIP/2.0",
                      "SIP/2.0 ", "SIP/2.0  200 x", "SIP/2.0 2x0 x", "SIP/2.0 20 x", "sip/2.0 200 x", "SIP/2.1 200 x",
                      " SIP/2.0 200 x", "SIP/2.0 200x", "SIP/2.0 -10 x", "SIP/2.0200 x", "SIP/2.0 200\t", "SIP/2.0 000 x",
                      "SIP/2.0 1:0 x", "SIP/2.0 2/0 x", "SIP/2.0-200 x", " sip:10.0.0.7 SIP/2.0", "sip:10.0.0.7 SIP/2.0"):
            self.leaves(answer(first=first))


class HeaderLines(Checked):
    def test_names(self):
        self.takes(request("a:1"), request("9: 1"), request("-: 1"), request("X" * 32 + ": 1"), request("A-9: 1"))
        self.leaves(request(": 1"), request("X" * 33 + ": 1"), request("a b: 1"), request("a : 1"), request(" a: 1"),
                    request("a_b: 1"), request("a"), request("a.b:1"), request("a\tb:1"))

    def test_values_of_other_lines(self):
        self.takes(request("a:"), request("a:   "), request("a: b: c"), request("a:<>,;\"%~"), request("a:" + "x" * 9000))

    def test_great_and_small_and_short_names(self):
        names = (("Via", "v"), ("From", "f"), ("To", "t"), ("Call-ID", "i"), ("CSeq", ""), ("Max-Forwards", ""))
        for index, (name, short) in enumerate(names, start=1):
            line = request_lines()[index]
            rest = line[len(name):]
            writings = [name.lower(), name.upper(), name.swapcase()] + ([short, short.upper()] if short else [])
            self.takes(*self.with_line(index, *[writing + rest for writing in writings]))
            self.leaves(*self.with_line(index, "X" + line))
        for short in ("c", "m-f", "e", "max"):
            self.leaves(*self.with_line(5, short + ": 1 INVITE"), *self.with_line(6, short + ": 70"))

    def test_short_names_mean_the_same(self):
        self.leaves(request("m: x"), request("M: x"), request("l: 1"), request("L: 1"), request("contact: x"),
                    request("CONTENT-LENGTH: 1"), request("eXpires: x"))
        self.takes(request("m: *"), request("L: 0"), request("EXPIRES: 0"))

    def test_blanks_around_values(self):
        lines = request_lines()
        spread = [lines[0]] + [line.replace(": ", ":     ", 1) + "   " for line in lines[1:]]
        tight = [lines[0]] + [line.replace(": ", ":", 1) for line in lines[1:]]
        self.takes(message(*spread), message(*tight))
        self.takes(request("Contact:  *  "), request("Expires:5  "), request("Content-Length:   1 ", body=b"x"))

    def test_needed_once(self):
        for index in range(2, 7):
            lines = request_lines()
            self.leaves(message(*(lines[:index] + lines[index + 1:])), message(*(lines + [lines[index]])))
        lines = request_lines()
        self.leaves(message(*(lines[:1] + lines[2:])), message(lines[0]))
        self.takes(message(*(lines + [lines[1]])), message(*([lines[0]] + lines[:0:-1])))
        self.leaves(request("f: <sip:a>"), request("t: <sip:a>"), request("I: x"), request("cseq: 1 INVITE"),
                    request("MAX-FORWARDS: 1"))

    def test_needed_in_answers(self):
        lines = answer_lines()
        for index in range(3, 7):
            self.leaves(message(*(lines[:index] + lines[index + 1:])), message(*(lines + [lines[index]])))
        self.leaves(message(*(lines[:1] + lines[3:])))

    def test_hops_in_answers_are_a_line_like_others(self):
        self.takes(answer("Max-Forwards: 0"), answer("Max-Forwards:"), answer("Max-Forwards: x y"),
                   answer("Max-Forwards: 1", "Max-Forwards: 2"))

    def test_length_of_the_body(self):
        for make in (request, answer):
            self.takes(make("Content-Length: 0"), make("l: 3", body=b"abc"), make("Content-Length: 000000003", body=b"abc"))
            self.leaves(make("Content-Length: 1"), make("Content-Length: 0", body=b"a"), make("l: 2", body=b"abc"),
                        make("l: 4", body=b"abc"), make("l: 0000000003", body=b"abc"), make("l:"), make("l: +0"),
                        make("l: 0", "l: 0"), make("l: 0", "Content-Length: 0"), make("l: 0x"), make("l: 3 3", body=b"abc"))
            self.takes(make(body=b"abc"))

    def test_expires(self):
        for make in (request, answer):
            self.takes(make("Expires: 0"), make("Expires: 999999999"), make("Expires: 000000001"))
            self.leaves(make("Expires:"), make("Expires: 1000000000"), make("Expires: -1"), make("Expires: x"),
                        make("Expires: 1", "Expires: 1"), make("Expires: 1 2"), make("Expires: 1;x"))


class Parts(Checked):
    def vias(self, *values):
        """Each value as a request's first Via, as its second, and as an answer's second."""
        made = []
        for value in values:
            made += [request(via=value), request("Via: " + value), answer(second=value)]
        return made

    def test_via_hosts(self):
        tail = ";branch=z9hG4bK"
        self.takes(*[request(via="SIP/2.0/UDP " + host + tail) for host in
                     ("1.2.3.4", "1.2.3.4:1", "a", "a:65535", "n" * 64, "256.1.1.1", "0.0.0.0", "a-b.c:5060", "9")])
        self.leaves(*self.vias(*["SIP/2.0/UDP " + host + tail for host in
                                 ("", " a", "a ", "-a", "a-", "a.", ".a", "n" * 65, "a_b", "a:", "a:0", "a:05", "a:65536",
                                  "a:1:2", "u@a", "sip:a", "[1]", "a:5 ", "a,b")]))

    def test_via_form(self):
        self.leaves(*self.vias(
            "SIP/2.0/UDP  a;branch=z9hG4bK", "SIP/2.0/UDPa;branch=z9hG4bK", "SIP/2.0/TCP a;branch=z9hG4bK",
            "sip/2.0/udp a;branch=z9hG4bK", "SIP/2.0/UDP", "", "SIP/2.0/UDP a", "a;branch=z9hG4bK",
            "SIP/2.0/UDP ;branch=z9hG4bK", "SIP / 2.0 / UDP a;branch=z9hG4bK"))

    def test_branches(self):
        start = "SIP/2.0/UDP 1.2.3.4"
        self.takes(*self.vias(start + ";branch=z9hG4bK", start + ";BRANCH=z9hG4bKx", start + ";x;bRanch=z9hG4bK=y;z",
                              start + ";branch=z9hG4bK" + "x" * 121))
        self.leaves(*self.vias(start, start + ";x", start + ";branch", start + ";branch=z9hG4b", start + ";branch=Z9HG4BK",
                               start + ";branch=xz9hG4bK", start + ";branch=z9hG4bK" + "x" * 122,
                               start + ";branch=z9hG4bK;branch=z9hG4bK", start + ";branch=z9hG4bK;Branch=1",
                               start + ";branch;branch=z9hG4bK", start + ";branches=z9hG4bK"))

    def test_parameters(self):
        good = [";x", ";x=1", ";x=1;x=2", ";x;x", ";" + "w" * 64, ";x=" + "v" * 128, ";a.b_c-d+9=1", ";x==", ";x=a=b",
                ";x=!#$&'()*+-./:?@[]^_`{|}~\\%", ""]
        wrong = [";", ";;x", ";x;", ";=1", ";x=", ";" + "w" * 65, ";x=" + "v" * 129, ";x=a,b", ";x=a<b", ";x=a>b",
                 ";x=\"a\"", ";x=a b", "; x", ";x =1", ";x= 1", ";x*=1", ";x<", ",x", "x", " ;x", ";x ;y"]
        start = "SIP/2.0/UDP 1.2.3.4;branch=z9hG4bK"
        self.takes(*self.vias(*[start + text for text in good]))
        self.leaves(*self.vias(*[start + text for text in wrong if text != "x"]))
        for index, name in ((2, "From"), (3, "To")):
            self.takes(*self.with_line(index, *[name + ": <sip:a>" + text for text in good]))
            self.leaves(*self.with_line(index, *[name + ": <sip:a>" + text for text in wrong]))
        self.takes(*[request("Contact: <sip:a>" + text) for text in good])
        self.leaves(*[request("Contact: <sip:a>" + text) for text in wrong])

    def parties(self, *values):
        made = []
        for value in values:
            made += [request(sender=value), request(to=value), request("m: <sip:a>", "Contact: " + value),
                     answer("m: " + value)]
        return made

    def test_parties(self):
        self.takes(*self.parties("<sip:a>", "x <sip:a>", "\"A; b, c\" <sip:a>", "a  <sip:a>", "  <sip:a>",
                                 "* <sip:a>", "<sip:a>;branch=1;branch"))
        self.leaves(*self.parties("", "sip:a", "x<sip:a>", "<sip:a", "sip:a>", "<<sip:a>", "<sip:a>>", "> <sip:a>",
                                  "< <sip:a>", "<x> <sip:a>", "<sip:a> ;x", "<sip:a>x", "<sip:a><sip:b>", "< sip:a>",
                                  "<sip:a >", ">sip:a<", "<>", "<sip:a>, <sip:b>", "x", "<*>", "**", "* ;x", "*;x", "x *"))

    def test_targets_of_parties(self):
        self.takes(*self.parties(*["<" + target + ">" for target in TARGETS_ALIKE]))
        self.leaves(*self.parties(*["<" + target + ">" for target in TARGETS_WRONG]))

    def test_stars(self):
        self.takes(request("Contact: *"), request("Contact: *", "m:*"), request("Contact: *", "m: <sip:a>"), answer("m:*"))
        self.leaves(request(sender="*"), request(to="*"))

    def test_call_id(self):
        self.takes(*[request(call=call) for call in ("x", "x" * 128, "a@b.c", "<>,;\"%")])
        self.leaves(*[request(call=call) for call in ("", "x" * 129, "a b")])

    def test_sequence(self):
        self.takes(*self.with_line(5, "CSeq: 0 INVITE", "CSeq: 999999999 INVITE", "CSeq: 000000001 INVITE"))
        self.leaves(*self.with_line(5, "CSeq: 1000000000 INVITE", "CSeq: INVITE", "CSeq:  INVITE", "CSeq: 1", "CSeq: 1INVITE",
                                    "CSeq: 1  INVITE", "CSeq: 1 ACK", "CSeq: 1 invite", "CSeq: x INVITE", "CSeq: -1 INVITE",
                                    "CSeq: 1 INVITE x", "CSeq: 1 INVITES", "CSeq:"))
        lines = answer_lines()
        for value, good in (("1 ACK", True), ("1 X", True), ("1 " + "X" * 16, True), ("1 " + "X" * 17, False),
                            ("1 ack", False), ("1 ", False), ("0000000001 ACK", False)):
            data = message(*lines[:-1], "CSeq: " + value)
            self.takes(data) if good else self.leaves(data)

    def test_hops(self):
        self.takes(*[request(hops=hops) for hops in ("0", "1", "255", "000", "007", "070")])
        self.leaves(*[request(hops=hops) for hops in ("", "256", "999", "1000", "0070", "-1", "+1", "x", "1 2", "1x")])


if __name__ == "__main__":
    unittest.main()
