import unittest

from support import after_begin, answer, answer_lines, begin, message, packet, run, sent

SECOND = "SIP/2.0/UDP 10.0.0.9:5070;branch=z9hG4bKa"


def ask(data, **place):
    return after_begin(packet(data, **place))[0]


class FirstVia(unittest.TestCase):
    def test_own(self):
        for host in ("10.0.0.1", "10.0.0.1:5060"):
            row = ask(answer(own=f"SIP/2.0/UDP {host};branch=z9hG4bKx"))
            self.assertEqual(sent(row)[1:], ("10.0.0.9", 5070))

    def test_not_own(self):
        for host in ("10.0.0.2", "10.0.0.1:5061", "house.example", "House.Example:5060", "10.0.0.9:5070"):
            self.assertEqual(ask(answer(own=f"SIP/2.0/UDP {host};branch=z9hG4bKx")), [0], host)

    def test_own_with_another_port(self):
        data = answer(own="SIP/2.0/UDP 10.0.0.1:6000;branch=z9hG4bKx")
        rows = run(begin(port=6000), packet(data), packet(answer()))
        self.assertEqual(sent(rows[1])[1:], ("10.0.0.9", 5070))
        self.assertEqual(rows[2], [0])

    def test_received_does_not_make_it_own(self):
        self.assertEqual(ask(answer(own="SIP/2.0/UDP a;branch=z9hG4bKx;received=10.0.0.1")), [0])

    def test_alone(self):
        lines = answer_lines()
        self.assertEqual(ask(message(*(lines[:2] + lines[3:]))), [0])

    def test_own_as_the_second_does_not_help(self):
        self.assertEqual(ask(answer(own=SECOND, second="SIP/2.0/UDP 10.0.0.1;branch=z9hG4bKx")), [0])


class SecondVia(unittest.TestCase):
    def check(self, via, expected):
        going = sent(ask(answer(second=f"SIP/2.0/UDP {via}")))
        self.assertEqual(None if going is None else going[1:], expected, via)

    def test_an_address(self):
        self.check("10.0.0.8;branch=z9hG4bK", ("10.0.0.8", 5060))
        self.check("0.0.0.0:1;branch=z9hG4bK", ("0.0.0.0", 1))
        self.check("255.255.255.255:65535;branch=z9hG4bK", ("255.255.255.255", 65535))

    def test_a_name(self):
        for host in ("far", "far:5070", "house.example", "10.0.0.256", "10.0.0.08"):
            self.check(host + ";branch=z9hG4bK", None)

    def test_received_that_is_an_address(self):
        self.check("far;branch=z9hG4bK;received=10.0.0.7", ("10.0.0.7", 5060))
        self.check("far:99;Received=10.0.0.7;branch=z9hG4bK", ("10.0.0.7", 99))
        self.check("10.0.0.8:99;branch=z9hG4bK;received=10.0.0.7", ("10.0.0.7", 99))
        self.check("10.0.0.8;branch=z9hG4bK;received=0.0.0.0", ("0.0.0.0", 5060))

    def test_received_that_is_not(self):
        for value in (";received", ";received=far", ";received=10.0.0.256", ";received=10.0.0.7:5", ";received=10.0.0"):
            self.check("far:99;branch=z9hG4bK" + value, None)
            self.check("10.0.0.8:99;branch=z9hG4bK" + value, ("10.0.0.8", 99))

    def test_received_named_twice(self):
        self.check("far;branch=z9hG4bK;received=x;received=10.0.0.7", ("10.0.0.7", 5060))
        self.check("far;branch=z9hG4bK;received=10.0.0.7;received=10.0.0.6", ("10.0.0.7", 5060))

    def test_the_third_does_not_count(self):
        more = "Via: SIP/2.0/UDP 10.0.0.3;branch=z9hG4bKc"
        self.assertEqual(ask(answer(more, second="SIP/2.0/UDP far;branch=z9hG4bKb")), [0])
        self.assertEqual(sent(ask(answer(more)))[1:], ("10.0.0.9", 5070))


class GoesOn(unittest.TestCase):
    def test_that_line_left_out_all_else_as_it_came(self):
        lines = ["SIP/2.0 486  Busy % ", "X-First:1  ", "v:  SIP/2.0/UDP 10.0.0.1:5060;x;branch=z9hG4bKx  ",
                 "to:<sip:a>", "f: <sip:b>  ", "VIA:   SIP/2.0/UDP 10.0.0.9:5070;branch=z9hG4bKa  ", "I:x",
                 "cseq:  1 INVITE ", "Max-Forwards: many", "Via: SIP/2.0/UDP 10.0.0.1;branch=z9hG4bKx", "l: 2"]
        expected = message(*(lines[:2] + lines[3:]), body=b"\x00\r")
        row = ask(message(*lines, body=b"\x00\r"), host="1.1.1.1")
        self.assertEqual(sent(row), (expected, "10.0.0.9", 5070))

    def test_too_little_room(self):
        size = len(sent(ask(answer()))[0])
        self.assertEqual(ask(answer(), most=size - 1), [-1])
        self.assertEqual(ask(answer(), most=size)[0], size)


if __name__ == "__main__":
    unittest.main()
