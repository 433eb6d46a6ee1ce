import unittest

from support import after_begin, begin, listed, listing, packet, registering, request, run, sent, status

ENROL = packet(registering("Contact: <sip:10.0.0.5>;expires=50"))


class Order(unittest.TestCase):
    def test_no_house_comes_first(self):
        self.assertEqual(run(packet(request(), port=0), packet(request(), most=-1), packet(request(), most=0)),
                         [[-9]] * 3)

    def test_out_of_range_comes_before_too_little_room(self):
        self.assertEqual(after_begin(packet(request(), port=0, most=0), packet(request(), most=-1)), [[-2], [-2]])

    def test_out_of_range_comes_before_what_is_no_message(self):
        self.assertEqual(after_begin(packet(b"", port=0), packet(b"", most=-1), packet(b"x" * 20000, most=65537)),
                         [[-2]] * 3)


class Ranges(unittest.TestCase):
    def test_most(self):
        for most, expected in ((-2147483648, -2), (-1, -2), (0, 0), (65536, 0), (65537, -2), (2147483647, -2)):
            self.assertEqual(after_begin(packet(b"", most=most)), [[expected]], most)

    def test_port(self):
        for port, expected in ((0, -2), (1, 0), (65535, 0), (65536, -2), (4294967295, -2)):
            self.assertEqual(after_begin(packet(b"", port=port)), [[expected]], port)

    def test_no_bytes_and_most_bytes(self):
        self.assertEqual(after_begin(packet(b""), packet(b"y" * 29000)), [[0], [0]])


class Room(unittest.TestCase):
    def test_just_enough_and_one_too_few(self):
        for data in (request(), request(target="sip:nowhere"), registering("Contact: <sip:10.0.0.5>")):
            size = len(sent(after_begin(packet(data))[0])[0])
            rows = after_begin(packet(data, most=size - 1), packet(data, most=0), packet(data, most=size))
            self.assertEqual(rows[:2], [[-1], [-1]])
            self.assertEqual(rows[2][0], size)

    def test_nothing_that_goes_out_fits_in_no_room(self):
        ack = request(method="ACK", target="sip:nowhere")
        self.assertEqual(after_begin(packet(ack, most=0), packet(b"x", most=0)), [[0], [0]])

    def test_too_little_room_enters_nothing(self):
        data = registering("Contact: <sip:10.0.0.5>")
        self.assertEqual(after_begin(packet(data, most=10), listing()), [[-1], [0]])

    def test_too_little_room_takes_nothing_away(self):
        for more in (["Contact: *", "Expires: 0"], ["Contact: <sip:10.0.0.5>;expires=0"]):
            rows = after_begin(ENROL, packet(registering(*more, number="2"), most=10), listing())
            self.assertEqual(rows[1], [-1])
            self.assertEqual(listed(rows[2]), "bob sip:10.0.0.5:5060 50\n")

    def test_too_little_room_leaves_entries_whose_time_is_over(self):
        late = packet(request(target="sip:nowhere"), now=150, most=10)
        rows = after_begin(ENROL, late, listing(now=149))
        self.assertEqual(rows[1], [-1])
        self.assertEqual(listed(rows[2]), "bob sip:10.0.0.5:5060 1\n")

    def test_a_refusal_out_of_range_leaves_them_too(self):
        late = packet(request(target="sip:nowhere"), now=150, port=0)
        rows = after_begin(ENROL, late, listing(now=149))
        self.assertEqual(rows[1], [-2])
        self.assertEqual(listed(rows[2]), "bob sip:10.0.0.5:5060 1\n")

    def test_after_it_the_same_call_with_room_is_taken(self):
        data = registering("Contact: <sip:10.0.0.5>")
        rows = run(begin(), packet(data, most=10), packet(data))
        self.assertEqual(status(rows[2]), "200 OK")


if __name__ == "__main__":
    unittest.main()
