import unittest

from support import PHONE, ROOM, after_begin, begin, listed, listing, packet, registering, request, run, status


class Names(unittest.TestCase):
    def check(self, name, expected):
        self.assertEqual(run(begin(name)), [[expected]], name)

    def test_names_that_are_hosts(self):
        for name in ("a", "7", "house", "House.Example", "a-b", "a..b", "a--b", "0", "1-2.x9", "Z"):
            self.check(name, 0)

    def test_numbers_that_are_no_address_are_names(self):
        for name in ("1.2.3", "1.2.3.4.5", "256.1.1.1", "1.1.1.256", "01.2.3.4", "1.2.3.00", "1.2..4", "1000.1.1.1"):
            self.check(name, 0)

    def test_an_address_is_no_name(self):
        for name in ("0.0.0.0", "255.255.255.255", "10.0.0.1", "1.20.99.100"):
            self.check(name, -2)

    def test_names_that_are_no_host(self):
        for name in ("-a", "a-", ".a", "a.", "-", ".", "a_b", "a b", "a+b", "a@b", "a:5", "a\n", "\x00", "a/b", "a`b",
                     "a[b", "a{b", "\xe9a", "a\xe9b", "a,b", " a", "a "):
            self.check(name, -2)

    def test_length(self):
        self.check("", -2)
        self.check("a" * 64, 0)
        self.check("a" * 63 + "-", -2)


class Ports(unittest.TestCase):
    def test_own_port(self):
        for port, expected in ((0, -2), (1, 0), (65535, 0), (65536, -2), (4294967295, -2)):
            self.assertEqual(run(begin(port=port)), [[expected]], port)

    def test_own_address_may_be_any(self):
        for host in ("0.0.0.0", "255.255.255.255"):
            self.assertEqual(run(begin(host=host)), [[0]])


class Houses(unittest.TestCase):
    def test_calls_before_the_first_begin(self):
        wrong = packet(b"", port=0, most=-1)
        self.assertEqual(run(packet(request()), listing(), wrong, listing(most=-1)), [[-9]] * 4)

    def test_calls_after_a_begin_that_refused(self):
        self.assertEqual(run(begin("-"), listing(), begin(port=0), packet(request())), [[-2], [-9], [-2], [-9]])

    def test_a_begin_that_refuses_changes_nothing(self):
        enrol = packet(registering("Contact: <sip:10.0.0.5>"))
        ask = packet(request(method="OPTIONS", target="sip:house.example"))
        rows = after_begin(enrol, begin("no_name", host="9.9.9.9"), begin("other", port=0), listing(), ask)
        self.assertEqual(rows[1:3], [[-2], [-2]])
        self.assertEqual(listed(rows[3]), "bob sip:10.0.0.5:5060 3600\n")
        self.assertEqual(status(rows[4]), "200 OK")

    def test_a_second_begin_makes_it_empty(self):
        enrol = packet(registering("Contact: <sip:10.0.0.5>"))
        rows = after_begin(enrol, begin(), listing())
        self.assertEqual(rows[1:], [[0], [0]])

    def test_a_second_begin_gives_the_house_its_own_name_and_address(self):
        ask = [packet(request(method="OPTIONS", target=target), PHONE, most=ROOM)
               for target in ("sip:house.example", "sip:other", "sip:10.0.0.2:6000")]
        rows = after_begin(begin("other", host="10.0.0.2", port=6000), *ask)
        self.assertEqual([status(row) for row in rows[1:]], ["502 Bad Gateway", "200 OK", "200 OK"])


if __name__ == "__main__":
    unittest.main()
