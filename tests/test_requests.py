import unittest

from support import END, after_begin, begin, message, packet, registering, request, request_lines, run, sent, status

ENROL = packet(registering("Contact: <sip:u@10.0.0.5:99>", "Contact: <sip:10.0.0.6>"))
OWN_VIA = "Via: SIP/2.0/UDP 10.0.0.1:5060;branch=z9hG4bKeb7e4c77228b948e"


def ask(data, **place):
    return after_begin(packet(data, **place))[0]


def text_lines(row):
    return sent(row)[0].decode("latin-1").split("\r\n")


class Steps(unittest.TestCase):
    def check(self, expected, *before, **parts):
        row = after_begin(*before, packet(request(**parts)))[-1]
        self.assertEqual(status(row), expected)

    def test_too_many_hops(self):
        for target in ("sip:10.0.0.7", "sip:nowhere", "sip:bob@house.example", "sip:x@10.0.0.1", "sip:u@nowhere"):
            for hops in ("0", "00", "000"):
                self.check("483 Too Many Hops", target=target, hops=hops)

    def test_too_many_hops_where_there_is_an_entry(self):
        self.check("483 Too Many Hops", ENROL, target="sip:bob@house.example", hops="0")

    def test_the_house_alone_needs_no_hop(self):
        for target in ("sip:house.example", "sip:10.0.0.1", "sip:10.0.0.1:5060", "sip:HOUSE.example:77"):
            self.check("200 OK", target=target, hops="0", method="OPTIONS")
            self.check("405 Method Not Allowed", target=target, hops="0")
            self.check("200 OK", target=target, hops="0", method="REGISTER")

    def test_the_house_alone(self):
        for target in ("sip:house.example", "sip:House.EXAMPLE:1", "sip:10.0.0.1", "sip:10.0.0.1:5060"):
            self.check("200 OK", target=target, method="OPTIONS")
            self.check("405 Method Not Allowed", target=target, method="INVITE")
            self.check("405 Method Not Allowed", target=target, method="OPTION")
            self.check("200 OK", target=target, method="REGISTER")

    def test_no_entry(self):
        for target in ("sip:bob@house.example", "sip:bob@HOUSE.EXAMPLE:9", "sip:bob@10.0.0.1", "sip:bob@10.0.0.1:5060"):
            for method in ("INVITE", "OPTIONS", "REGISTER"):
                self.check("404 Not Found", target=target, method=method)

    def test_words_differ_in_great_and_small(self):
        for word in ("Bob", "BOB", "bo", "bobb"):
            self.check("404 Not Found", ENROL, target=f"sip:{word}@house.example")

    def test_a_name_that_is_not_the_house(self):
        for target in ("sip:nowhere", "sip:bob@nowhere", "sip:house.example.x", "sip:house", "sip:bob@10.0.0.01"):
            self.check("502 Bad Gateway", ENROL, target=target)

    def test_own_address_with_another_port_is_not_the_house(self):
        for target in ("sip:10.0.0.1:5061", "sip:bob@10.0.0.1:5061"):
            row = ask(request(target=target))
            self.assertEqual(sent(row)[1:], ("10.0.0.1", 5061))
        rows = run(begin(port=6000), packet(request(target="sip:10.0.0.1")), packet(request(target="sip:10.0.0.1:6000")))
        self.assertEqual(sent(rows[1])[1:], ("10.0.0.1", 5060))
        self.assertEqual(status(rows[2]), "405 Method Not Allowed")

    def test_to_an_address(self):
        for target, place in (("sip:10.0.0.7", ("10.0.0.7", 5060)), ("sip:u@255.255.255.255:1", ("255.255.255.255", 1)),
                              ("sip:0.0.0.0:65535", ("0.0.0.0", 65535))):
            row = ask(request(target=target))
            self.assertEqual(sent(row)[1:], place)
            self.assertEqual(text_lines(row)[0], f"INVITE {target} SIP/2.0")

    def test_any_method_goes_on(self):
        for method in ("ACK", "CANCEL", "REGISTER", "OPTIONS", "X"):
            self.assertEqual(text_lines(ask(request(method=method)))[0], f"{method} sip:10.0.0.7 SIP/2.0")

    def test_to_the_entry_kept_last(self):
        for method in ("INVITE", "ACK", "CANCEL", "REGISTER"):
            row = after_begin(ENROL, packet(request(method=method, target="sip:bob@house.example:1")))[1]
            self.assertEqual(sent(row)[1:], ("10.0.0.6", 5060))
            self.assertEqual(text_lines(row)[0], f"{method} sip:10.0.0.6:5060 SIP/2.0")

    def test_to_the_entry_renewed_last(self):
        again = packet(registering("m: <sip:u@10.0.0.5:99>", number="2"))
        row = after_begin(ENROL, again, packet(request(target="sip:bob@10.0.0.1")))[2]
        self.assertEqual(sent(row)[1:], ("10.0.0.5", 99))
        self.assertEqual(text_lines(row)[0], "INVITE sip:u@10.0.0.5:99 SIP/2.0")

    def test_not_to_another_word_s_entry(self):
        other = packet(registering("m: <sip:10.0.0.8>", to="<sip:Bob@house.example>"))
        row = after_begin(ENROL, other, packet(request(target="sip:bob@10.0.0.1")))[2]
        self.assertEqual(sent(row)[1:], ("10.0.0.6", 5060))

    def test_not_to_an_entry_whose_time_is_over(self):
        enrol = packet(registering("m: <sip:10.0.0.5>;expires=50", "m: <sip:10.0.0.6>;expires=10"))
        data = request(target="sip:bob@house.example")
        for now, place in ((109, "10.0.0.6"), (110, "10.0.0.5"), (149, "10.0.0.5")):
            self.assertEqual(sent(after_begin(enrol, packet(data, now=now))[1])[1], place)
        self.assertEqual(status(after_begin(enrol, packet(data, now=150))[1]), "404 Not Found")

    def test_acks_and_cancels_are_never_answered(self):
        for method in ("ACK", "CANCEL"):
            for target in ("sip:house.example", "sip:10.0.0.1", "sip:bob@house.example", "sip:nowhere"):
                self.assertEqual(ask(request(method=method, target=target)), [0])
            self.assertEqual(ask(request(method=method, hops="0")), [0])
        self.assertEqual(status(ask(request(method="BYE", target="sip:nowhere"))), "502 Bad Gateway")


class GoesOn(unittest.TestCase):
    def test_all_lines(self):
        data = message("INVITE sip:bob@house.example SIP/2.0",
                       "X-First:one  ",
                       "v:   SIP/2.0/UDP 10.0.0.9:7777;branch=z9hG4bKa   ",
                       "VIA: SIP/2.0/UDP far;branch=z9hG4bKb  ",
                       "MAX-forwards:   070  ",
                       "f:<sip:al@house.example>",
                       "t:  B <sip:bob@house.example>  ",
                       "i:call1 ",
                       "CSEQ: 1 INVITE ",
                       "m: <sip:al@10.0.0.9>",
                       "l:  3  ",
                       "subject:",
                       body=b"a\r\n")
        row = after_begin(ENROL, packet(data, host="10.0.0.9"))[1]
        expected = message("INVITE sip:10.0.0.6:5060 SIP/2.0",
                           OWN_VIA,
                           "X-First:one  ",
                           "v:   SIP/2.0/UDP 10.0.0.9:7777;branch=z9hG4bKa   ",
                           "VIA: SIP/2.0/UDP far;branch=z9hG4bKb  ",
                           "Max-Forwards: 69",
                           "f:<sip:al@house.example>",
                           "t:  B <sip:bob@house.example>  ",
                           "i:call1 ",
                           "CSEQ: 1 INVITE ",
                           "m: <sip:al@10.0.0.9>",
                           "l:  3  ",
                           "subject:",
                           body=b"a\r\n")
        self.assertEqual(sent(row), (expected, "10.0.0.6", 5060))

    def test_received_is_added(self):
        for via in ("SIP/2.0/UDP 10.0.0.8;branch=z9hG4bKa", "SIP/2.0/UDP phone:9;branch=z9hG4bKa;x",
                    "SIP/2.0/UDP 10.0.0.8;branch=z9hG4bKa;received=10.0.0.9",
                    "SIP/2.0/UDP 10.0.0.09;branch=z9hG4bKa"):
            lines = text_lines(ask(request(via=via + "    "), host="10.0.0.9"))
            self.assertEqual(lines[2], f"Via: {via};received=10.0.0.9")
            self.assertEqual(len(lines), len(request_lines()) + 3)

    def test_received_keeps_the_line_s_start(self):
        lines = request_lines()
        lines[1] = "V:  SIP/2.0/UDP far;branch=z9hG4bKa  "
        row = ask(message(*lines), host="255.0.1.20")
        self.assertEqual(text_lines(row)[2], "V:  SIP/2.0/UDP far;branch=z9hG4bKa;received=255.0.1.20")

    def test_received_is_not_added(self):
        via = "SIP/2.0/UDP 10.0.0.9:1;branch=z9hG4bKa;received=1.1.1.1   "
        self.assertEqual(text_lines(ask(request(via=via), host="10.0.0.9"))[2], "Via: " + via)

    def test_received_is_added_to_the_first_alone(self):
        second = "Via: SIP/2.0/UDP 10.0.0.8;branch=z9hG4bKb  "
        lines = text_lines(ask(request(second, via="SIP/2.0/UDP far;branch=z9hG4bKa"), host="10.0.0.9"))
        self.assertEqual(lines[2], "Via: SIP/2.0/UDP far;branch=z9hG4bKa;received=10.0.0.9")
        self.assertEqual(lines[8], second)
        lines = text_lines(ask(request(second), host="10.0.0.9"))
        self.assertEqual(lines[8], second)

    def test_received_is_added_to_no_line_before_it(self):
        lines = request_lines(via="SIP/2.0/UDP far;branch=z9hG4bKa")
        row = ask(message(lines[0], "Subject: x ", *lines[2:], lines[1]), host="10.0.0.9")
        self.assertEqual(text_lines(row)[2], "Subject: x ")
        self.assertEqual(text_lines(row)[8], lines[1] + ";received=10.0.0.9")

    def test_hops_are_one_less(self):
        for hops, less in (("1", "0"), ("255", "254"), ("010", "9"), ("100", "99"), ("001", "0")):
            self.assertEqual(text_lines(ask(request(hops=hops)))[7], "Max-Forwards: " + less)

    def test_own_via(self):
        row = run(begin(host="1.2.3.4", port=65535), packet(request()))[1]
        self.assertEqual(text_lines(row)[1], "Via: SIP/2.0/UDP 1.2.3.4:65535;branch=z9hG4bKeb7e4c77228b948e")

    def test_body_of_any_bytes(self):
        body = bytes(range(256)) * 3
        self.assertTrue(sent(ask(request(body=body)))[0].endswith(b"\r\nMax-Forwards: 69\r\n\r\n" + body))


class Answered(unittest.TestCase):
    def test_all_lines(self):
        data = message("OPTIONS sip:house.example SIP/2.0",
                       "X-First: one",
                       "l: 2",
                       "CSEQ:  007 OPTIONS ",
                       "i:call1 ",
                       "t:  B <sip:bob@house.example>;x  ",
                       "max-forwards: 0",
                       "v:   SIP/2.0/UDP far:7777;branch=z9hG4bKa   ",
                       "f:A  <sip:al@house.example>;tag=9  ",
                       "VIA:SIP/2.0/UDP 10.0.0.8;branch=z9hG4bKb  ",
                       "Contact: *",
                       body=b"hi")
        expected = message("SIP/2.0 200 OK",
                           "Via: SIP/2.0/UDP far:7777;branch=z9hG4bKa;received=10.0.0.9",
                           "Via: SIP/2.0/UDP 10.0.0.8;branch=z9hG4bKb",
                           "From: A  <sip:al@house.example>;tag=9",
                           "To: B <sip:bob@house.example>;x;tag=c15c1b86dff7bff8",
                           "Call-ID: call1",
                           "CSeq: 007 OPTIONS",
                           "Content-Length: 0")
        self.assertEqual(sent(ask(data, host="10.0.0.9")), (expected, "10.0.0.9", 7777))

    def test_where_it_goes(self):
        for via, port in (("10.0.0.8", 5060), ("10.0.0.8:1", 1), ("far:65535", 65535), ("far", 5060)):
            row = ask(request(target="sip:nowhere", via=f"SIP/2.0/UDP {via};branch=z9hG4bKa"), host="10.0.0.7", port=4321)
            self.assertEqual(sent(row)[1:], ("10.0.0.7", port))

    def test_received_is_not_added(self):
        lines = text_lines(ask(request(target="sip:nowhere", via="SIP/2.0/UDP 10.0.0.9;branch=z9hG4bKa  ")))
        self.assertEqual(lines[1], "Via: SIP/2.0/UDP 10.0.0.9;branch=z9hG4bKa")

    def test_received_looks_at_the_first_via_alone(self):
        near = "SIP/2.0/UDP 10.0.0.9;branch=z9hG4bKa"
        far = "SIP/2.0/UDP far:7;branch=z9hG4bKb"
        lines = text_lines(ask(request("v: " + far, target="sip:nowhere", via=near)))
        self.assertEqual(lines[1:3], ["Via: " + near, "Via: " + far])
        lines = text_lines(ask(request("v: " + near, target="sip:nowhere", via=far)))
        self.assertEqual(lines[1:3], ["Via: " + far + ";received=10.0.0.9", "Via: " + near])

    def test_a_tag_that_is_there_stays(self):
        for to in ("<sip:a>;tag=5", "<sip:a>;x;TAG=5", "<sip:a>;tag", "<sip:a>;Tag;y"):
            self.assertIn("To: " + to, text_lines(ask(request(target="sip:nowhere", to=to))))

    def test_what_is_no_tag_does_not_count(self):
        for to in ("<sip:tag@a>", "\";tag=1\" <sip:a>", "<sip:a>;tags=1", "<sip:a>;x=tag"):
            self.assertIn("To: " + to + ";tag=c15c1b86dff7bff8", text_lines(ask(request(target="sip:nowhere", to=to))))

    def test_it_ends_with_an_empty_line(self):
        self.assertTrue(sent(ask(request(target="sip:nowhere")))[0].endswith(b"\r\nContent-Length: 0" + END + END))


if __name__ == "__main__":
    unittest.main()
