import unittest

from support import (
    after_begin, begin, contacts, listed, listing, message, packet, registering, request, run, sent, status)

LATEST = 4294967295


def enrol(*more, now=100, **parts):
    return packet(registering(*more, **parts), now=now)


def many(first, count, now=100, **parts):
    """A REGISTER with count Contacts of ports from first on."""
    return enrol(*[f"m: <sip:9.9.9.9:{port}>" for port in range(first, first + count)], now=now, **parts)


class Bad(unittest.TestCase):
    def check(self, *calls):
        """The last call is answered 400 and leaves the entries as the others left them."""
        rows = after_begin(*calls[:-1], listing(), calls[-1], listing())
        self.assertEqual(status(rows[-2]), "400 Bad Request")
        self.assertEqual(contacts(rows[-2]), [])
        self.assertEqual(rows[-1], rows[-3])

    def test_to_without_a_word(self):
        self.check(enrol("m: <sip:10.0.0.5>", to="<sip:house.example>"))

    def test_to_whose_host_is_not_the_house_s(self):
        for host in ("other", "10.0.0.2", "10.0.0.1:5061", "house.example.x"):
            self.check(enrol("m: <sip:10.0.0.5>", to=f"<sip:bob@{host}>"))

    def test_to_whose_host_is_the_house_s(self):
        for host in ("house.example", "HOUSE.example:99", "10.0.0.1", "10.0.0.1:5060"):
            rows = after_begin(enrol("m: <sip:10.0.0.5>", to=f"<sip:bob@{host}>"), listing())
            self.assertEqual(listed(rows[1]), "bob sip:10.0.0.5:5060 3600\n")

    def test_a_contact_s_host_is_a_name(self):
        for lines in (["m: <sip:far>"], ["m: <sip:u@far:9>"], ["m: <sip:10.0.0.5>", "m: <sip:far>"],
                      ["m: <sip:far>", "m: <sip:10.0.0.5>"], ["m: <sip:far>;expires=0"], ["m: <sip:house.example>"],
                      ["m: <sip:10.0.0.05>"]):
            self.check(enrol(*lines))

    def test_a_star_otherwise(self):
        kept = enrol("m: <sip:10.0.0.5>")
        for lines in (["m: *"], ["m: *", "Expires: 1"], ["m: *", "m: *", "Expires: 0"],
                      ["m: *", "m: <sip:10.0.0.6>", "Expires: 0"], ["m: <sip:10.0.0.5>", "m: *", "Expires: 0"]):
            self.check(kept, enrol(*lines, number="2"))

    def test_the_same_call_and_number_or_a_smaller_one(self):
        kept = enrol("m: <sip:10.0.0.5>", number="5")
        for number in ("5", "4", "0", "005"):
            for lines in (["m: <sip:10.0.0.6>"], ["m: <sip:10.0.0.5>;expires=0"], ["m: *", "Expires: 0"], []):
                self.check(kept, enrol(*lines, number=number))

    def test_any_entry_of_the_word_counts(self):
        self.check(enrol("m: <sip:10.0.0.5>", number="5"), enrol("m: <sip:10.0.0.6>", call="other"),
                   enrol("m: <sip:10.0.0.7>", number="5"))

    def test_bad_comes_before_unavailable(self):
        self.check(many(1, 256), many(1000, 3, number="1"))


class SameCall(unittest.TestCase):
    def check(self, *calls):
        self.assertEqual(status(after_begin(*calls)[-1]), "200 OK")

    def test_a_greater_number(self):
        self.check(enrol("m: <sip:10.0.0.5>", number="5"), enrol("m: <sip:10.0.0.6>", number="6"))
        self.check(enrol("m: <sip:10.0.0.5>", number="9"), enrol("m: <sip:10.0.0.6>", number="10"))
        self.check(enrol("m: <sip:10.0.0.5>", number="009"), enrol("m: <sip:10.0.0.6>", number="10"))

    def test_another_call(self):
        self.check(enrol("m: <sip:10.0.0.5>", number="5"), enrol("m: <sip:10.0.0.5>", number="5", call="Call1"))

    def test_another_word(self):
        self.check(enrol("m: <sip:10.0.0.5>", number="5"),
                   enrol("m: <sip:10.0.0.5>", number="5", to="<sip:Bob@house.example>"))

    def test_an_entry_whose_time_is_over(self):
        kept = enrol("m: <sip:10.0.0.5>;expires=10", number="5")
        self.assertEqual(status(after_begin(kept, enrol(number="5", now=109))[1]), "400 Bad Request")
        self.check(kept, enrol(number="5", now=110))

    def test_an_entry_that_is_gone(self):
        self.check(enrol("m: <sip:10.0.0.5>", number="5"), enrol("m: <sip:10.0.0.5>;expires=0", number="6"),
                   enrol("m: <sip:10.0.0.5>", number="1"))

    def test_a_renewed_entry_has_the_new_call_and_number(self):
        first = enrol("m: <sip:10.0.0.5>", number="5")
        again = enrol("m: <sip:10.0.0.5>", number="3", call="other")
        self.check(first, again, enrol("m: <sip:10.0.0.5>", number="5"))
        self.assertEqual(status(after_begin(first, again, enrol(number="3", call="other"))[2]), "400 Bad Request")

    def test_contacts_of_one_request_do_not_bar_each_other(self):
        self.check(enrol("m: <sip:10.0.0.5>", "m: <sip:10.0.0.6>", "m: <sip:10.0.0.5>"))


class Times(unittest.TestCase):
    def check(self, lines, expected, now=100):
        row = after_begin(enrol(*lines, now=now))[0]
        self.assertEqual(contacts(row), expected)

    def test_parameter_then_header_then_usual(self):
        self.check(["m: <sip:10.0.0.5>;expires=7", "Expires: 8"], ["<sip:10.0.0.5:5060>;expires=7"])
        self.check(["m: <sip:10.0.0.5>;x;EXPIRES=007", "Expires: 8"], ["<sip:10.0.0.5:5060>;expires=7"])
        self.check(["m: <sip:10.0.0.5>", "Expires: 8"], ["<sip:10.0.0.5:5060>;expires=8"])
        self.check(["Expires: 8", "m: <sip:10.0.0.5>"], ["<sip:10.0.0.5:5060>;expires=8"])
        self.check(["m: <sip:10.0.0.5>"], ["<sip:10.0.0.5:5060>;expires=3600"])

    def test_a_parameter_that_is_not_so(self):
        for value in (";expires", ";expires=x", ";expires=1000000000", ";expires=-1", ";expires=1.5", ";expired=9"):
            self.check(["m: <sip:10.0.0.5>" + value, "Expires: 8"], ["<sip:10.0.0.5:5060>;expires=8"])
            self.check(["m: <sip:10.0.0.5>" + value], ["<sip:10.0.0.5:5060>;expires=3600"])

    def test_a_parameter_named_twice(self):
        self.check(["m: <sip:10.0.0.5>;expires=7;expires=9"], ["<sip:10.0.0.5:5060>;expires=7"])
        self.check(["m: <sip:10.0.0.5>;expires;expires=9"], ["<sip:10.0.0.5:5060>;expires=9"])

    def test_greatest_and_least(self):
        self.check(["m: <sip:10.0.0.5>;expires=999999999"], ["<sip:10.0.0.5:5060>;expires=999999999"])
        self.check(["m: <sip:10.0.0.5>;expires=1"], ["<sip:10.0.0.5:5060>;expires=1"], now=0)

    def test_nothing_is_there(self):
        self.check(["m: <sip:10.0.0.5>;expires=0"], [])
        self.check(["m: <sip:10.0.0.5>;expires=000000000", "Expires: 9"], [])
        self.check(["m: <sip:10.0.0.5>", "Expires: 0"], [])

    def test_until_the_latest_at_most(self):
        for now, left in ((LATEST - 3600, 3600), (LATEST - 3599, 3599), (LATEST - 1, 1)):
            self.check(["m: <sip:10.0.0.5>"], [f"<sip:10.0.0.5:5060>;expires={left}"], now=now)
        rows = after_begin(enrol("m: <sip:10.0.0.5>", now=LATEST - 5), listing(now=LATEST - 1), listing(now=LATEST))
        self.assertEqual(listed(rows[1]), "bob sip:10.0.0.5:5060 1\n")
        self.assertEqual(rows[2], [0])


class LatestNow(unittest.TestCase):
    """What a REGISTER makes at the latest now has its time then, so it isn't there and is taken away for good."""

    def test_it_is_not_told_then_or_later(self):
        for lines in (["m: <sip:10.0.0.5>"], ["m: <sip:10.0.0.5>;expires=1"], ["m: <sip:10.0.0.5>;expires=999999999"],
                      ["m: <sip:10.0.0.5>", "Expires: 1"], ["m: <sip:10.0.0.5>", "m: <sip:u@10.0.0.6:9>"]):
            rows = after_begin(enrol(*lines, now=LATEST), listing(now=LATEST), listing(now=100), listing(now=0))
            self.assertEqual(status(rows[0]), "200 OK")
            self.assertEqual(contacts(rows[0]), [])
            self.assertEqual(rows[1:], [[0], [0], [0]])

    def at_h(self, count, now):
        """The answers of a REGISTER with count Contacts of different addresses at a house h, then of list at 100."""
        lines = ["REGISTER sip:h SIP/2.0", "Via: SIP/2.0/UDP 1.2.3.4;branch=z9hG4bK1", "From: <sip:x@h>",
                 "To: <sip:x@h>", "Call-ID: a", "CSeq: 1 REGISTER", "Max-Forwards: 7"]
        lines += [f"Contact: <sip:1.1.{at // 256}.{at % 256}:1>" for at in range(count)]
        rows = run(begin(name="h", host="1.2.3.4"), packet(message(*lines), host="1.2.3.4", port=5060, now=now),
                   listing(now=100))
        return rows[1:]

    def test_different_addresses(self):
        for count in (1, 256, 257):
            rows = self.at_h(count, LATEST)
            self.assertEqual(status(rows[0]), "200 OK")
            self.assertEqual(contacts(rows[0]), [])
            self.assertEqual(rows[1], [0])

    def test_different_addresses_just_before(self):
        self.assertEqual(len(contacts(self.at_h(256, LATEST - 1)[0])), 256)
        rows = self.at_h(257, LATEST - 1)
        self.assertEqual(status(rows[0]), "503 Service Unavailable")
        self.assertEqual(rows[1], [0])

    def test_just_before_it_is_kept(self):
        rows = after_begin(enrol("m: <sip:10.0.0.5>", now=LATEST - 1), listing(now=LATEST - 1), listing(now=100))
        self.assertEqual(contacts(rows[0]), ["<sip:10.0.0.5:5060>;expires=1"])
        self.assertEqual(listed(rows[1]), "bob sip:10.0.0.5:5060 1\n")
        self.assertEqual(listed(rows[2]), f"bob sip:10.0.0.5:5060 {LATEST - 100}\n")

    def test_its_call_and_number_bar_nothing(self):
        for number in ("5", "4"):
            rows = after_begin(enrol("m: <sip:10.0.0.5>", number="5", now=LATEST),
                               enrol("m: <sip:10.0.0.6>", number=number), listing())
            self.assertEqual(contacts(rows[1]), ["<sip:10.0.0.6:5060>;expires=3600"])
            self.assertEqual(listed(rows[2]), "bob sip:10.0.0.6:5060 3600\n")

    def test_no_call_goes_on_to_it(self):
        rows = after_begin(enrol("m: <sip:10.0.0.5>", now=LATEST), packet(request(target="sip:bob@house.example")))
        self.assertEqual(status(rows[1]), "404 Not Found")

    def test_it_is_not_counted(self):
        rows = after_begin(many(1, 257, now=LATEST), listing(now=LATEST), listing(now=0))
        self.assertEqual(status(rows[0]), "200 OK")
        self.assertEqual(contacts(rows[0]), [])
        self.assertEqual(rows[1:], [[0], [0]])

    def test_just_before_it_is_counted(self):
        rows = after_begin(many(1, 257, now=LATEST - 1), many(1, 256, now=LATEST - 1), listing(now=LATEST - 1))
        self.assertEqual([status(row) for row in rows[:2]], ["503 Service Unavailable", "200 OK"])
        self.assertEqual(listed(rows[2]).count("\n"), 256)

    def test_bad_stays_bad(self):
        rows = after_begin(enrol("m: <sip:far>", now=LATEST), enrol("m: *", now=LATEST), listing(now=0))
        self.assertEqual([status(row) for row in rows[:2]], ["400 Bad Request"] * 2)
        self.assertEqual(rows[2], [0])

    def test_refused_for_room_changes_nothing(self):
        late = packet(registering("m: <sip:10.0.0.6>", number="2"), now=LATEST, most=10)
        rows = after_begin(enrol("m: <sip:10.0.0.5>"), late, listing())
        self.assertEqual(rows[1], [-1])
        self.assertEqual(listed(rows[2]), "bob sip:10.0.0.5:5060 3600\n")


class Entries(unittest.TestCase):
    def test_places_differ_in_word_address_and_port(self):
        rows = after_begin(enrol("m: <sip:10.0.0.5>", "m: <sip:u@10.0.0.5>", "m: <sip:U@10.0.0.5>", "m: <sip:10.0.0.5:1>",
                                 "m: <sip:10.0.0.6>"))
        self.assertEqual(contacts(rows[0]), [f"<sip:{place}>;expires=3600" for place in
                                             ("10.0.0.6:5060", "10.0.0.5:1", "U@10.0.0.5:5060", "u@10.0.0.5:5060",
                                              "10.0.0.5:5060")])

    def test_a_place_named_again_is_renewed(self):
        rows = after_begin(enrol("m: <sip:10.0.0.5>", "m: <sip:10.0.0.6>", "m: A <sip:10.0.0.5:5060>;expires=9"))
        self.assertEqual(contacts(rows[0]), ["<sip:10.0.0.5:5060>;expires=9", "<sip:10.0.0.6:5060>;expires=3600"])

    def test_contacts_are_taken_in_order(self):
        rows = after_begin(enrol("m: <sip:10.0.0.5>", "m: <sip:10.0.0.5>;expires=0", "m: <sip:10.0.0.6>;expires=0",
                                 "m: <sip:10.0.0.6>"))
        self.assertEqual(contacts(rows[0]), ["<sip:10.0.0.6:5060>;expires=3600"])

    def test_renewed_by_another_request(self):
        rows = after_begin(enrol("m: <sip:10.0.0.5>", "m: <sip:10.0.0.6>"),
                           enrol("m: <sip:10.0.0.5>;expires=9", number="2", now=150), listing(now=150))
        self.assertEqual(contacts(rows[1]), ["<sip:10.0.0.5:5060>;expires=9", "<sip:10.0.0.6:5060>;expires=3550"])
        self.assertEqual(listed(rows[2]), "bob sip:10.0.0.5:5060 9\nbob sip:10.0.0.6:5060 3550\n")

    def test_one_place_is_taken_away(self):
        rows = after_begin(enrol("m: <sip:10.0.0.5>", "m: <sip:10.0.0.6>", "m: <sip:u@10.0.0.5>"),
                           enrol("m: <sip:10.0.0.5>;expires=0", number="2"), listing())
        self.assertEqual(listed(rows[2]), "bob sip:u@10.0.0.5:5060 3600\nbob sip:10.0.0.6:5060 3600\n")

    def test_expires_0_as_a_header_takes_the_named_places_alone_away(self):
        rows = after_begin(enrol("m: <sip:10.0.0.5>", "m: <sip:10.0.0.6>", "m: <sip:10.0.0.7>"),
                           enrol("m: <sip:10.0.0.6>", "Expires: 0", number="2"), listing())
        self.assertEqual(listed(rows[2]), "bob sip:10.0.0.7:5060 3600\nbob sip:10.0.0.5:5060 3600\n")

    def test_a_star_takes_all_of_that_word_away(self):
        other = enrol("m: <sip:10.0.0.7>", to="<sip:Bob@house.example>")
        for zero in ("0", "000"):
            clear = enrol("Contact: *", f"Expires: {zero}", number="2")
            rows = after_begin(enrol("m: <sip:10.0.0.5>", "m: <sip:10.0.0.6>"), other, clear, listing())
            self.assertEqual(status(rows[2]), "200 OK")
            self.assertEqual(contacts(rows[2]), [])
            self.assertEqual(listed(rows[3]), "Bob sip:10.0.0.7:5060 3600\n")

    def test_the_same_place_of_two_words(self):
        other = enrol("m: <sip:10.0.0.5>", to="<sip:al@house.example>")
        rows = after_begin(enrol("m: <sip:10.0.0.5>"), other, enrol("m: <sip:10.0.0.5>;expires=0", number="2"), listing())
        self.assertEqual(contacts(rows[1]), ["<sip:10.0.0.5:5060>;expires=3600"])
        self.assertEqual(listed(rows[3]), "al sip:10.0.0.5:5060 3600\n")

    def test_without_contacts_it_only_asks(self):
        rows = after_begin(enrol("m: <sip:10.0.0.5>", "m: <sip:u@10.0.0.6:9>"), enrol(number="2", now=101), enrol(number="2"))
        self.assertEqual(contacts(rows[1]), ["<sip:u@10.0.0.6:9>;expires=3599", "<sip:10.0.0.5:5060>;expires=3599"])
        self.assertEqual(status(rows[2]), "200 OK")

    def test_entries_whose_time_is_over_are_not_told(self):
        rows = after_begin(enrol("m: <sip:10.0.0.5>;expires=10", "m: <sip:10.0.0.6>"), enrol(number="2", now=110))
        self.assertEqual(contacts(rows[1]), ["<sip:10.0.0.6:5060>;expires=3590"])

    def test_whose_word_is_to_s_and_not_from_s(self):
        rows = after_begin(enrol("m: <sip:10.0.0.5>", to="<sip:al@house.example>", sender="<sip:x@far>"), listing())
        self.assertEqual(listed(rows[1]), "al sip:10.0.0.5:5060 3600\n")

    def test_all_lines_of_the_answer(self):
        row = after_begin(enrol("m: <sip:u@10.0.0.5>", "Expires: 5"))[0]
        expected = message("SIP/2.0 200 OK",
                           "Via: SIP/2.0/UDP 10.0.0.9;branch=z9hG4bKa",
                           "From: <sip:al@house.example>;tag=1",
                           "To: <sip:bob@house.example>;tag=c15c1b86dff7bff8",
                           "Call-ID: call1",
                           "CSeq: 1 REGISTER",
                           "Contact: <sip:u@10.0.0.5:5060>;expires=5",
                           "Content-Length: 0")
        self.assertEqual(sent(row), (expected, "10.0.0.9", 5060))


class Many(unittest.TestCase):
    def unavailable(self, *calls):
        rows = after_begin(*calls[:-1], listing(), calls[-1], listing())
        self.assertEqual(status(rows[-2]), "503 Service Unavailable")
        self.assertEqual(contacts(rows[-2]), [])
        self.assertEqual(rows[-1], rows[-3])

    def test_256_and_one_more(self):
        rows = after_begin(many(1, 256), listing())
        self.assertEqual(len(contacts(rows[0])), 256)
        self.assertEqual(listed(rows[1]).count("\n"), 256)
        self.assertEqual(listed(rows[1]).split("\n")[0], "bob sip:9.9.9.9:256 3600")
        self.unavailable(many(1, 257))
        self.unavailable(many(1, 256), enrol("m: <sip:10.0.0.5>", number="2"))

    def test_all_words_count(self):
        self.unavailable(many(1, 200), many(1, 57, to="<sip:al@house.example>"))
        rows = after_begin(many(1, 200), many(1, 56, to="<sip:al@house.example>"), listing())
        self.assertEqual(listed(rows[2]).count("\n"), 256)

    def test_a_full_house_renews_and_takes_away(self):
        rows = after_begin(many(1, 256), many(7, 1, number="2"), enrol("m: <sip:9.9.9.9:8>;expires=0", number="3"),
                           enrol("m: <sip:10.0.0.5>", number="4"), listing())
        self.assertEqual([status(row) for row in rows[:4]], ["200 OK"] * 4)
        self.assertEqual(listed(rows[4]).count("\n"), 256)
        self.assertEqual(listed(rows[4]).split("\n")[:2], ["bob sip:10.0.0.5:5060 3600", "bob sip:9.9.9.9:7 3600"])

    def test_what_is_there_in_the_end_counts(self):
        swap = enrol("m: <sip:10.0.0.5>", "m: <sip:9.9.9.9:8>;expires=0", number="2")
        rows = after_begin(many(1, 256), swap)
        self.assertEqual(status(rows[1]), "200 OK")
        self.assertEqual(len(contacts(rows[1])), 256)

    def test_entries_whose_time_is_over_do_not_count(self):
        short = many(1, 256, to="<sip:al@house.example>")
        rows = after_begin(short, enrol("m: <sip:10.0.0.5>", now=3699), enrol("m: <sip:10.0.0.5>", now=3700), listing(now=0))
        self.assertEqual(status(rows[1]), "503 Service Unavailable")
        self.assertEqual(status(rows[2]), "200 OK")
        self.assertEqual(listed(rows[3]), "bob sip:10.0.0.5:5060 7300\n")


if __name__ == "__main__":
    unittest.main()
