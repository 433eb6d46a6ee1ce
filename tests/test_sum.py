import unittest

from callhouse.signs import codes, sum_of, sum_row
from support import after_begin, packet, request, sent


def line_starting(row, start):
    return [line for line in sent(row)[0].decode("latin-1").split("\r\n") if line.startswith(start)][0]


class Sums(unittest.TestCase):
    def test_of_nothing_is_the_number_it_starts_with(self):
        self.assertEqual(sum_of([]), 0xCBF29CE484222325)

    def test_of_one_byte_worked_out(self):
        # ..2325H xor 61H is ..2344H; that times 100000001B3H, of which the last 16 hexadecimal digits stay.
        self.assertEqual(0xCBF29CE484222344 * 0x100000001B3 & 0xFFFFFFFFFFFFFFFF, 0xAF63DC4C8601EC8C)
        self.assertEqual(sum_of([0x61]), 0xAF63DC4C8601EC8C)

    def test_of_several(self):
        self.assertEqual(sum_of(codes("foobar")), 0x85944171F73967E8)

    def test_written_in_16_small_digits(self):
        self.assertEqual(sum_row(codes("foobar")), codes("85944171f73967e8"))
        self.assertEqual(sum_row(codes("c279house.example")), codes("0009be227a35c4bc"))

    def test_in_the_branch(self):
        row = after_begin(packet(request()))[0]
        self.assertEqual(line_starting(row, "Via: SIP/2.0/UDP 10.0.0.1"),
                         "Via: SIP/2.0/UDP 10.0.0.1:5060;branch=z9hG4bKeb7e4c77228b948e")
        data = request(method="MESSAGE", via="SIP/2.0/UDP a;x=1;Branch=z9hG4bKzz;y=2", call="@x", number="007")
        row = after_begin(packet(data))[0]
        self.assertEqual(line_starting(row, "Via: SIP/2.0/UDP 10.0.0.1"),
                         "Via: SIP/2.0/UDP 10.0.0.1:5060;branch=z9hG4bK8a3ddd5a175dda86")

    def test_in_the_branch_is_of_the_first_via(self):
        row = after_begin(packet(request("Via: SIP/2.0/UDP a;branch=z9hG4bKb")))[0]
        self.assertEqual(line_starting(row, "Via: SIP/2.0/UDP 10.0.0.1")[-16:], "eb7e4c77228b948e")

    def test_in_the_tag_with_the_name_in_small_letters(self):
        row = after_begin(packet(request(target="sip:nowhere")))[0]
        self.assertEqual(line_starting(row, "To: "), "To: <sip:bob@house.example>;tag=c15c1b86dff7bff8")

    def test_in_the_tag_with_the_call_as_it_is(self):
        row = after_begin(packet(request(target="sip:nowhere", call="Call1")))[0]
        self.assertEqual(line_starting(row, "To: "), "To: <sip:bob@house.example>;tag=b4553c7dfc1ab258")


if __name__ == "__main__":
    unittest.main()
