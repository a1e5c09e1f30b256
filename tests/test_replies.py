"""Promise 2, packet: every byte of an answer, and where it is sent to."""

import unittest

from tests.helper import (
    ACK, ANN, BOB, DECLINE, DISCOVER, EVERYBODY, FIRST, INFORM, MACHINE, NAK, OFFER, RELAY, REQUEST,
    SERVER, ip, last, net, opening, option, raw, reply, send, sending, take,
)

ELSEWHERE = ip("172.16.5.4")


class Bytes(unittest.TestCase):
    """Answers written out, so that they do not hang on the helper's own."""

    top = [17, 34, 51, 68, 0, 0]
    magic = [99, 130, 83, 99]
    given = [51, 4, 0, 0, 3, 232, 58, 4, 0, 0, 1, 244, 59, 4, 0, 0, 3, 107]
    ways = [1, 4, 255, 255, 255, 0, 3, 4, 10, 0, 0, 254, 6, 4, 9, 8, 7, 6]
    here = [54, 4, 10, 0, 0, 1]

    def test_offer(self):
        wanted = [2, 1, 6, 0] + self.top + [127, 3] + [0] * 4 + [10, 0, 0, 10] + [0] * 4
        wanted += [0] * 4 + MACHINE + [0] * 192 + self.magic
        wanted += [53, 1, 2] + self.here + self.given + self.ways + [255] + [0] * 14
        self.assertEqual(len(wanted), 300)
        answered = last(opening(), send(DISCOVER, flags=(127, 3)))
        self.assertEqual(answered, [300, FIRST, 68] + wanted)

    def test_offer_with_identifier(self):
        wanted = [2, 1, 6, 0] + self.top + [128, 0] + [0] * 4 + [10, 0, 0, 10] + [0] * 4
        wanted += [10, 0, 0, 200] + MACHINE + [0] * 192 + self.magic
        wanted += [53, 1, 2] + self.here + self.given + self.ways + [61, 3, 0, 255, 7, 255] + [0] * 9
        call = send(DISCOVER, [0, 255, 7], flags=(128, 0), relay=RELAY, client=ELSEWHERE)
        self.assertEqual(last(opening(), call), [300, RELAY, 67] + wanted)

    def test_ack(self):
        wanted = [2, 1, 6, 0] + self.top + [0, 1] + [10, 0, 0, 10] + [10, 0, 0, 10] + [0] * 4
        wanted += [0] * 4 + MACHINE + [0] * 192 + self.magic
        wanted += [53, 1, 5] + self.here + self.given + self.ways + [61, 2, 0, 65, 255] + [0] * 10
        again = send(REQUEST, ANN, client=FIRST, flags=(0, 1))
        answered = last(opening(), send(DISCOVER, ANN), take(ANN, FIRST), again)
        self.assertEqual(answered, [300, FIRST, 68] + wanted)

    def test_ack_without_identifier(self):
        wanted = [2, 1, 6, 0] + self.top + [0, 0] + [0] * 4 + [10, 0, 0, 10] + [0] * 4
        wanted += [0] * 4 + MACHINE + [0] * 192 + self.magic
        wanted += [53, 1, 5] + self.here + self.given + self.ways + [255] + [0] * 14
        answered = last(opening(), send(DISCOVER), take(None, FIRST))
        self.assertEqual(answered, [300, FIRST, 68] + wanted)

    def test_nak(self):
        wanted = [2, 1, 6, 0] + self.top + [0, 9] + [0] * 12 + [10, 0, 0, 200]
        wanted += MACHINE + [0] * 192 + self.magic
        wanted += [53, 1, 6] + self.here + [255] + [0] * 50
        call = send(REQUEST, wanted=FIRST, server=SERVER, relay=RELAY, flags=(0, 9))
        self.assertEqual(last(opening(), call), [300, RELAY, 67] + wanted)

    def test_nak_with_identifier(self):
        wanted = [2, 1, 6, 0] + self.top + [0, 0] + [0] * 16
        wanted += MACHINE + [0] * 192 + self.magic
        wanted += [53, 1, 6] + self.here + [61, 2, 0, 66, 255] + [0] * 46
        # Client isn't 0 here, and is left out of a NAK all the same.
        call = send(REQUEST, BOB, client=FIRST)
        self.assertEqual(last(opening(), call), [300, EVERYBODY, 68] + wanted)

    def test_ack_of_inform(self):
        wanted = [2, 1, 6, 0] + self.top + [255, 255] + [172, 16, 5, 4] + [0] * 12
        wanted += MACHINE + [0] * 192 + self.magic
        wanted += [53, 1, 5] + self.here + self.ways + [255] + [0] * 32
        call = send(INFORM, client=ELSEWHERE, flags=(255, 255))
        self.assertEqual(last(opening(), call), [300, ELSEWHERE, 68] + wanted)

    def test_ack_of_inform_with_identifier(self):
        wanted = [2, 1, 6, 0] + self.top + [0, 0] + [172, 16, 5, 4] + [0] * 12
        wanted += MACHINE + [0] * 192 + self.magic
        wanted += [53, 1, 5] + self.here + self.ways + [61, 2, 0, 65, 255] + [0] * 28
        call = send(INFORM, ANN, client=ELSEWHERE)
        self.assertEqual(last(opening(), call), [300, ELSEWHERE, 68] + wanted)


class Lengths(unittest.TestCase):
    def test_zeros_up_to_300_and_none_beyond(self):
        for count in range(2, 33):
            who = [200 + count] * count
            answered = last(opening(), send(DISCOVER, who))
            self.assertEqual(answered, reply(OFFER, FIRST, who=who))
            self.assertEqual(answered[0], max(300, 288 + count))
            self.assertEqual(len(answered), answered[0] + 3)

    def test_other_options_do_not_come_back(self):
        options = option(12, [1, 2]) + [53, 1, DISCOVER] + option(55, [1, 3]) + option(82, [4])
        options += option(61, ANN) + option(57, [1, 0])
        answered = last(opening(), sending(raw(options + [255])))
        self.assertEqual(answered, reply(OFFER, FIRST, who=ANN))


class HowLong(unittest.TestCase):
    def times(self, long):
        answered = last(opening(long=long), send(DISCOVER))
        at = 3 + 240 + 3 + 6
        parts = [answered[at + step:at + step + 6] for step in (0, 6, 12)]
        self.assertEqual([part[:2] for part in parts], [[51, 4], [58, 4], [59, 4]])
        return [int.from_bytes(bytes(part[2:]), "big") for part in parts]

    def test_half_and_eighth_are_quotients_towards_below(self):
        self.assertEqual(self.times(60), [60, 30, 49])
        self.assertEqual(self.times(63), [63, 31, 49])
        self.assertEqual(self.times(64), [64, 32, 56])
        self.assertEqual(self.times(71), [71, 35, 56])
        self.assertEqual(self.times(86400), [86400, 43200, 75600])
        self.assertEqual(self.times(31535999), [31535999, 15767999, 27593993])
        self.assertEqual(self.times(31536000), [31536000, 15768000, 27594000])


class Fields(unittest.TestCase):
    def test_numbers_of_another_net(self):
        other = dict(
            server=ip("200.201.202.203"), mask=ip("255.240.0.0"), way_out=ip("1.2.3.4"),
            names=0, first=ip("200.200.255.254"), count=4, long=16909060,
        )
        answered = last(opening(**other), send(DISCOVER, ANN))
        self.assertEqual(answered, reply(OFFER, ip("200.200.255.254"), who=ANN, lent=net(**other)))

    def test_number_flags_and_machine_come_back(self):
        machine = list(range(255, 239, -1))
        told = dict(machine=machine, number=[255, 0, 1, 254], flags=(127, 255))
        answered = last(opening(), send(DISCOVER, **told))
        self.assertEqual(answered, reply(OFFER, FIRST, **told))


class SentTo(unittest.TestCase):
    def goes(self, answered, to, port):
        self.assertEqual(answered[1:3], [to, port])

    def test_relay_is_ahead_of_all(self):
        told = dict(relay=RELAY, flags=(128, 0))
        self.goes(last(opening(), send(DISCOVER, client=ELSEWHERE, **told)), RELAY, 67)
        self.goes(last(opening(), send(REQUEST, client=FIRST, **told)), RELAY, 67)
        self.goes(last(opening(), send(INFORM, client=ELSEWHERE, **told)), RELAY, 67)
        offered = [opening(), send(DISCOVER)]
        self.goes(last(*offered, send(REQUEST, wanted=FIRST, server=SERVER, **told)), RELAY, 67)
        self.goes(last(opening(), send(DISCOVER, relay=1)), 1, 67)
        self.goes(last(opening(), send(DISCOVER, relay=0xFFFFFFFE)), 0xFFFFFFFE, 67)

    def test_nak_goes_to_everybody_whatever_client_is(self):
        for flags in ((0, 0), (128, 0)):
            self.goes(last(opening(), send(REQUEST, client=FIRST, flags=flags)), EVERYBODY, 68)
            call = send(REQUEST, wanted=FIRST, server=SERVER, flags=flags)
            self.goes(last(opening(), call), EVERYBODY, 68)

    def test_client_is_ahead_of_flags(self):
        for flags in ((0, 0), (128, 0), (255, 255)):
            call = send(DISCOVER, client=ELSEWHERE, flags=flags)
            self.assertEqual(last(opening(), call), reply(OFFER, FIRST, to=ELSEWHERE, flags=flags))
            self.goes(last(opening(), send(INFORM, client=7, flags=flags)), 7, 68)

    def test_flags(self):
        for flags, to in (
            ((127, 255), FIRST), ((0, 128), FIRST), ((64, 0), FIRST),
            ((128, 0), EVERYBODY), ((128, 1), EVERYBODY), ((192, 0), EVERYBODY), ((255, 255), EVERYBODY),
        ):
            self.goes(last(opening(), send(DISCOVER, flags=flags)), to, 68)
            call = send(REQUEST, wanted=FIRST, server=SERVER, flags=flags)
            self.goes(last(opening(), send(DISCOVER), call), to, 68)

    def test_the_address_given_and_not_the_one_wanted(self):
        answered = last(opening(), send(DISCOVER, ANN), send(DISCOVER, BOB, wanted=FIRST))
        self.assertEqual(answered, reply(OFFER, FIRST + 1, who=BOB))


class NoAnswer(unittest.TestCase):
    def test_is_nought_alone(self):
        for kind in (0, OFFER, DECLINE, ACK, NAK, 7, 9, 10, 13, 255):
            self.assertEqual(last(opening(), send(kind, ANN, FIRST, SERVER)), [0])


if __name__ == "__main__":
    unittest.main()
