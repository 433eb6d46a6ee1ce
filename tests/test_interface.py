import unittest

from callhouse.house import answers
from support import ROOM, address, after_begin, begin, listing, packet, registering, request, run


def long_line():
    calls = begin()
    for number in range(1, 11):
        calls += packet(registering(f"Contact: <sip:10.0.0.{number}>", number=str(number)), now=number)
        calls += listing(now=number) if number < 9 else []
        calls += packet(request(target="sip:bob@house.example"), now=number)
    return calls


class Form(unittest.TestCase):
    def test_each_answer_has_its_length_before_it(self):
        self.assertEqual(answers(begin()), [1, 0])
        self.assertEqual(answers(begin() + listing() + begin("-") + packet(b"")), [1, 0, 1, 0, 1, -2, 1, 0])

    def test_a_packet_tells_size_address_port_and_bytes(self):
        given = answers(begin() + packet(request(target="sip:10.0.0.7:77", body=b"\x00\xff")))
        self.assertEqual(given[:2], [1, 0])
        self.assertEqual(given[2], len(given) - 3)
        self.assertEqual(given[3], len(given) - 6)
        self.assertEqual(given[4:6], [address("10.0.0.7"), 77])
        self.assertEqual(given[-2:], [0, 255])

    def test_a_list_tells_size_and_bytes(self):
        given = after_begin(packet(registering("Contact: <sip:10.0.0.5>")), listing())[1]
        self.assertEqual(given, [27] + list(b"bob sip:10.0.0.5:5060 3600\n"))

    def test_any_call_may_be_first_and_32_calls_stand_in_one_list(self):
        calls = [listing()] + [begin(), packet(b""), begin("-")] * 10 + [listing()]
        expected = [[-9]] + [[0], [0], [-2]] * 10 + [[0]]
        self.assertEqual(run(*calls), expected)

    def test_the_longest_list(self):
        fill = packet(b"x" * 28900)
        self.assertEqual(run(begin(), fill, listing(now=4294967295, most=ROOM)), [[0], [0], [0]])

    def test_answers_are_whole_numbers_in_a_list(self):
        given = answers(long_line())
        self.assertIs(type(given), list)
        self.assertTrue(all(type(number) is int for number in given))


class Kept(unittest.TestCase):
    def test_what_is_handed_in_is_unchanged(self):
        calls = long_line()
        before = list(calls)
        answers(calls)
        self.assertEqual(calls, before)

    def test_what_is_handed_in_is_unchanged_meanwhile(self):
        class Watched(list):
            def refuse(self, *args):
                raise AssertionError("changed")
            __setitem__ = __delitem__ = __iadd__ = __imul__ = append = extend = insert = pop = refuse
            remove = reverse = sort = clear = refuse

        self.assertEqual(answers(Watched(long_line())), answers(long_line()))

    def test_the_same_call_twice_gives_the_same(self):
        self.assertEqual(answers(long_line()), answers(long_line()))

    def test_nothing_is_kept_from_one_time_to_the_next(self):
        answers(long_line())
        self.assertEqual(answers(listing()), [1, -9])
        self.assertEqual(answers(begin() + listing()), [1, 0, 1, 0])


if __name__ == "__main__":
    unittest.main()
