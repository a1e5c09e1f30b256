"""Promise 2, packet: DECLINE, RELEASE, INFORM and others."""

import unittest

from tests.helper import (
    ACK, ALL, ANN, BOB, DECLINE, DISCOVER, FIRST, FREED_BY_ANN, INFORM, LENT_TO_ANN, NAK, OFFER,
    OFFERED_TO_ANN, OTHER, RELAY, RELEASE, REQUEST, SERVER, ip, last, look, opening, reply, run, send, take,
    tick,
)


class Packets(unittest.TestCase):
    def does(self, calls, packet, seen):
        """No answer, and thereafter a look at the first address shows this."""
        answered = run(*calls, packet, look(FIRST))
        self.assertEqual(answered[-2:], [[0], seen])

    def does_nothing(self, calls, packet):
        answered = run(*calls, *ALL, packet, *ALL)
        self.assertEqual(answered[-4], [0])
        self.assertEqual(answered[-3:], answered[-7:-4])


class Decline(Packets):
    packet = send(DECLINE, ANN, wanted=FIRST, server=SERVER)

    def test_offered(self):
        self.does(OFFERED_TO_ANN, self.packet, [3, 600, 0])
        self.does(OFFERED_TO_ANN + [tick(33)], self.packet, [3, 600, 0])

    def test_lent(self):
        self.does(LENT_TO_ANN, self.packet, [3, 600, 0])

    def test_whatever_its_time(self):
        self.does(OFFERED_TO_ANN + [tick(60)], self.packet, [3, 600, 0])
        self.does(LENT_TO_ANN + [tick(1000)], self.packet, [3, 600, 0])
        self.does(LENT_TO_ANN + [tick(9999)], self.packet, [3, 600, 0])

    def test_client_and_relay_do_not_matter(self):
        packet = send(DECLINE, ANN, wanted=FIRST, server=SERVER, client=FIRST, relay=RELAY)
        self.does(OFFERED_TO_ANN, packet, [3, 600, 0])

    def test_for_600_seconds(self):
        answered = run(*OFFERED_TO_ANN, self.packet, tick(599), look(FIRST), tick(600), look(FIRST))
        self.assertEqual(answered[-3:], [[3, 1, 0], [0], [0, 0, 0]])

    def test_it_is_nobodys(self):
        answered = run(*LENT_TO_ANN, self.packet, take(ANN, FIRST), send(REQUEST, ANN, client=FIRST))
        self.assertEqual(answered[-2:], [reply(NAK, who=ANN), reply(NAK, who=ANN)])
        self.does_nothing(OFFERED_TO_ANN + [self.packet, tick(5)], self.packet)
        self.does_nothing(OFFERED_TO_ANN + [self.packet, tick(600)], self.packet)

    def test_free(self):
        self.does_nothing(FREED_BY_ANN, self.packet)
        self.does_nothing(OFFERED_TO_ANN + [send(REQUEST, ANN, server=OTHER)], self.packet)
        self.does_nothing([opening()], self.packet)

    def test_not_own(self):
        self.does_nothing(OFFERED_TO_ANN, send(DECLINE, BOB, wanted=FIRST, server=SERVER))
        self.does_nothing(LENT_TO_ANN, send(DECLINE, wanted=FIRST, server=SERVER))
        self.does_nothing(LENT_TO_ANN + [tick(60)], send(DECLINE, BOB, wanted=FIRST, server=SERVER))
        self.does_nothing(LENT_TO_ANN, send(DECLINE, ANN, wanted=FIRST + 1, server=SERVER))

    def test_not_lent_here(self):
        for wanted in (0, SERVER, FIRST - 1, FIRST + 3, 0xFFFFFFFF):
            self.does_nothing(LENT_TO_ANN, send(DECLINE, ANN, wanted=wanted, server=SERVER))

    def test_without_wanted(self):
        self.does_nothing(LENT_TO_ANN, send(DECLINE, ANN, server=SERVER))
        self.does_nothing(LENT_TO_ANN, send(DECLINE, ANN, server=SERVER, client=FIRST))

    def test_another_server(self):
        for server in (None, 0, OTHER, FIRST):
            self.does_nothing(LENT_TO_ANN, send(DECLINE, ANN, wanted=FIRST, server=server))


class Release(Packets):
    packet = send(RELEASE, ANN, client=FIRST, server=SERVER)

    def test_lent(self):
        self.does(LENT_TO_ANN, self.packet, [0, 0, 2, 0, 65])
        self.does(LENT_TO_ANN + [tick(999)], self.packet, [0, 0, 2, 0, 65])

    def test_still_theirs(self):
        answered = run(*LENT_TO_ANN, self.packet, send(DISCOVER, ANN), take(ANN, FIRST))
        self.assertEqual(answered[-2:], [reply(OFFER, FIRST, who=ANN), reply(ACK, FIRST, who=ANN)])

    def test_free_for_others(self):
        answered = run(*LENT_TO_ANN, self.packet, send(DISCOVER, BOB, wanted=FIRST))
        self.assertEqual(answered[-1], reply(OFFER, FIRST, who=BOB))

    def test_not_lent_any_more(self):
        answered = run(*LENT_TO_ANN, self.packet, send(REQUEST, ANN, client=FIRST))
        self.assertEqual(answered[-1], reply(NAK, who=ANN))

    def test_lent_and_over_is_free_till_now(self):
        # Its state is lent still: thereafter Bob's was over first.
        calls = [opening(count=2), send(DISCOVER, ANN), take(ANN, FIRST), tick(1)]
        calls += [send(DISCOVER, BOB), take(BOB, FIRST + 1), tick(2000)]
        self.does(calls, self.packet, [0, 0, 2, 0, 65])
        self.assertEqual(last(*calls, self.packet, send(DISCOVER)), reply(OFFER, FIRST + 1))
        self.assertEqual(last(*calls, send(DISCOVER)), reply(OFFER, FIRST))
        answered = run(*calls, self.packet, send(REQUEST, ANN, client=FIRST))
        self.assertEqual(answered[-1], reply(NAK, who=ANN))

    def test_not_lent(self):
        self.does_nothing(OFFERED_TO_ANN, self.packet)
        self.does_nothing([opening()], self.packet)
        answered = run(*OFFERED_TO_ANN, send(DECLINE, ANN, wanted=FIRST, server=SERVER), self.packet, look(FIRST))
        self.assertEqual(answered[-2:], [[0], [3, 600, 0]])

    def test_a_free_one_keeps_its_time(self):
        calls = [opening(count=2), send(DISCOVER, ANN), take(ANN, FIRST), send(DISCOVER, BOB), take(BOB, FIRST + 1)]
        calls += [tick(10), self.packet, tick(20), send(RELEASE, BOB, client=FIRST + 1, server=SERVER)]
        calls += [tick(30), self.packet, send(DISCOVER)]
        self.assertEqual(last(*calls), reply(OFFER, FIRST))

    def test_not_own(self):
        self.does_nothing(LENT_TO_ANN, send(RELEASE, BOB, client=FIRST, server=SERVER))
        self.does_nothing(LENT_TO_ANN, send(RELEASE, ANN, client=FIRST + 1, server=SERVER))

    def test_not_lent_here(self):
        for client in (0, SERVER, FIRST - 1, FIRST + 3, 0xFFFFFFFF):
            self.does_nothing(LENT_TO_ANN, send(RELEASE, ANN, client=client, server=SERVER))

    def test_wanted_does_not_stand_for_client(self):
        self.does_nothing(LENT_TO_ANN, send(RELEASE, ANN, wanted=FIRST, server=SERVER))

    def test_another_server(self):
        for server in (None, 0, OTHER, FIRST):
            self.does_nothing(LENT_TO_ANN, send(RELEASE, ANN, client=FIRST, server=server))


class Inform(unittest.TestCase):
    def test_ack_without_an_address(self):
        for client in (1, FIRST, SERVER, ip("172.16.0.1"), 0xFFFFFFFF):
            answered = run(opening(), *ALL, send(INFORM, ANN, client=client), *ALL)
            self.assertEqual(answered[4], reply(ACK, who=ANN, client=client, to=client))
            self.assertEqual(answered[5:], answered[1:4])

    def test_what_is_lent_stays(self):
        packet = send(INFORM, ANN, client=FIRST, wanted=FIRST, server=OTHER)
        answered = run(*LENT_TO_ANN, tick(9), packet, look(FIRST))
        self.assertEqual(answered[-2:], [reply(ACK, who=ANN, client=FIRST, to=FIRST), [2, 991, 2, 0, 65]])

    def test_client_nought(self):
        for relay in (0, RELAY):
            packet = send(INFORM, ANN, wanted=FIRST, server=SERVER, relay=relay)
            self.assertEqual(last(*LENT_TO_ANN, packet), [0])


class Others(Packets):
    def test_do_nothing(self):
        for kind in (0, OFFER, ACK, NAK, 9, 18, 255):
            for calls in ([opening()], OFFERED_TO_ANN, LENT_TO_ANN):
                self.does_nothing(calls, send(kind, ANN, wanted=FIRST, server=SERVER, client=FIRST))


if __name__ == "__main__":
    unittest.main()
