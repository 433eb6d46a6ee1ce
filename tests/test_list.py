import unittest

from support import after_begin, answer, listed, listing, packet, registering, request, run

FIRST = packet(registering("Contact: <sip:u@10.0.0.5:99>;expires=50", "Contact: <sip:10.0.0.6>;expires=10"))
SECOND = packet(registering("Contact: <sip:10.0.0.7>", to="<sip:Al.x_y-z+1@house.example>"), now=105)


class Lines(unittest.TestCase):
    def test_empty(self):
        self.assertEqual(after_begin(listing(), listing(most=0)), [[0], [0]])

    def test_the_last_kept_first_and_how_long_each_is_there(self):
        rows = after_begin(FIRST, SECOND, listing(now=107))
        self.assertEqual(listed(rows[2]), "Al.x_y-z+1 sip:10.0.0.7:5060 3598\n"
                                          "bob sip:10.0.0.6:5060 3\n"
                                          "bob sip:u@10.0.0.5:99 43\n")

    def test_a_renewed_entry_is_the_last_kept(self):
        again = packet(registering("Contact: <sip:u@10.0.0.5:99>;expires=60", number="2"), now=106)
        rows = after_begin(FIRST, SECOND, again, listing(now=106))
        self.assertEqual(listed(rows[3]), "bob sip:u@10.0.0.5:99 60\n"
                                          "Al.x_y-z+1 sip:10.0.0.7:5060 3599\n"
                                          "bob sip:10.0.0.6:5060 4\n")

    def test_time_now_or_before_is_not_there(self):
        for now, expected in ((109, "bob sip:10.0.0.6:5060 1\nbob sip:u@10.0.0.5:99 41\n"),
                              (110, "bob sip:u@10.0.0.5:99 40\n"), (111, "bob sip:u@10.0.0.5:99 39\n"),
                              (149, "bob sip:u@10.0.0.5:99 1\n"), (150, ""), (4294967295, "")):
            self.assertEqual(listed(after_begin(FIRST, listing(now=now))[1]), expected, now)

    def test_it_takes_nothing_away(self):
        rows = after_begin(FIRST, listing(now=4294967295), listing(now=0))
        self.assertEqual(rows[1], [0])
        self.assertEqual(listed(rows[2]), "bob sip:10.0.0.6:5060 110\nbob sip:u@10.0.0.5:99 150\n")

    def test_a_request_takes_away_for_good_what_is_over(self):
        for late in (request(), request(target="sip:nowhere"), request(method="ACK", target="sip:nowhere"),
                     registering(to="<sip:10.0.0.8>")):
            rows = after_begin(FIRST, packet(late, now=110), listing(now=100))
            self.assertEqual(listed(rows[2]), "bob sip:u@10.0.0.5:99 50\n")

    def test_an_answer_or_no_message_takes_nothing_away(self):
        for late in (answer(), b"", request(hops="256")):
            rows = after_begin(FIRST, packet(late, now=200), listing(now=100))
            self.assertEqual(listed(rows[2]), "bob sip:10.0.0.6:5060 10\nbob sip:u@10.0.0.5:99 50\n")


class Refusals(unittest.TestCase):
    def test_no_house_comes_first(self):
        self.assertEqual(run(listing(), listing(most=-1), listing(most=65537)), [[-9]] * 3)

    def test_most(self):
        for most, expected in ((-2147483648, -2), (-1, -2), (0, 0), (65536, 0), (65537, -2), (2147483647, -2)):
            self.assertEqual(after_begin(listing(most=most)), [[expected]], most)

    def test_just_enough_and_one_too_few(self):
        size = len("bob sip:u@10.0.0.5:99 40\n")
        rows = after_begin(FIRST, listing(now=110, most=size), listing(now=110, most=size - 1), listing(now=110, most=-1))
        self.assertEqual(len(listed(rows[1])), size)
        self.assertEqual(rows[2:], [[-1], [-2]])


if __name__ == "__main__":
    unittest.main()
