"""Promise 2, packet: REQUEST."""

import unittest

from tests.helper import (
    ACK, ALL, ANN, BOB, CAT, DAN, DECLINE, DISCOVER, FIRST, FREED_BY_ANN, LENT_TO_ANN, NAK, OFFER,
    OFFERED_TO_ANN, OTHER, RELAY, REQUEST, SERVER, ip, last, look, opening, reply, run, send, take, tick,
)

REFUSED_BY_ANN = OFFERED_TO_ANN + [send(DECLINE, ANN, wanted=FIRST, server=SERVER)]


class Requests(unittest.TestCase):
    def acks(self, calls, request, address, **told):
        """The address is lent to Ann from then on."""
        answered = run(*calls, request, look(address))
        self.assertEqual(answered[-2], reply(ACK, address, who=ANN, **told))
        self.assertEqual(answered[-1], [2, 1000, 2, 0, 65])

    def answers(self, calls, request, answer):
        """The request is answered so, and all addresses stay as they were."""
        answered = run(*calls, *ALL, request, *ALL)
        self.assertEqual(answered[-4], answer)
        self.assertEqual(answered[-3:], answered[-7:-4])

    def naks(self, calls, request, who=ANN, **told):
        self.answers(calls, request, reply(NAK, who=who, **told))

    def is_silent(self, calls, request):
        self.answers(calls, request, [0])


class OfAnotherServer(Requests):
    request = send(REQUEST, ANN, wanted=FIRST, server=OTHER)

    def test_what_is_offered_is_free_and_still_theirs(self):
        for request in (
            self.request, send(REQUEST, ANN, server=OTHER), send(REQUEST, ANN, wanted=OTHER, server=OTHER),
            send(REQUEST, ANN, wanted=FIRST, server=0), send(REQUEST, ANN, client=FIRST, server=OTHER),
            send(REQUEST, ANN, wanted=FIRST + 1, server=SERVER + 0x80000000, client=5, relay=RELAY),
        ):
            answered = run(*OFFERED_TO_ANN, tick(5), request, look(FIRST), send(DISCOVER, ANN))
            self.assertEqual(answered[-3:], [[0], [0, 0, 2, 0, 65], reply(OFFER, FIRST, who=ANN)])

    def test_it_is_free_now_for_others(self):
        answered = run(*OFFERED_TO_ANN, self.request, send(DISCOVER, BOB, wanted=FIRST))
        self.assertEqual(answered[-1], reply(OFFER, FIRST, who=BOB))

    def test_it_is_no_offer_any_more(self):
        # As a free one it can't be declined.
        answered = run(
            *OFFERED_TO_ANN, self.request, send(DECLINE, ANN, wanted=FIRST, server=SERVER), look(FIRST),
        )
        self.assertEqual(answered[-1], [0, 0, 2, 0, 65])

    def test_what_is_offered_to_others_stays(self):
        self.is_silent([opening(), send(DISCOVER, BOB)], self.request)
        calls = [opening(), send(DISCOVER, BOB), send(DISCOVER, ANN), send(DISCOVER, CAT)]
        answered = run(*calls, self.request, *ALL)
        self.assertEqual(answered[-3:], [[1, 60, 2, 0, 66], [0, 0, 2, 0, 65], [1, 60, 2, 0, 67]])

    def test_what_is_lent_or_free_or_refused_stays(self):
        for calls in (LENT_TO_ANN, FREED_BY_ANN, REFUSED_BY_ANN, [opening()]):
            self.is_silent(calls, self.request)

    def test_a_lent_one_stays_even_over(self):
        answered = run(*LENT_TO_ANN, tick(1000), self.request, send(REQUEST, ANN, client=FIRST))
        self.assertEqual(answered[-1], reply(ACK, FIRST, who=ANN, client=FIRST))

    def test_an_offer_that_is_over_is_free_till_now(self):
        # Its state is offered still, so its time is over later than Bob's.
        calls = [opening(count=2), send(DISCOVER, ANN), tick(1), send(DISCOVER, BOB), tick(100)]
        self.assertEqual(last(*calls, self.request, send(DISCOVER, CAT)), reply(OFFER, FIRST + 1, who=CAT))
        self.assertEqual(last(*calls, send(DISCOVER, CAT)), reply(OFFER, FIRST, who=CAT))


class OfThisServer(Requests):
    request = take(ANN, FIRST)

    def test_without_wanted(self):
        for calls in (OFFERED_TO_ANN, LENT_TO_ANN, [opening()]):
            self.is_silent(calls, send(REQUEST, ANN, server=SERVER))
            self.is_silent(calls, send(REQUEST, ANN, server=SERVER, client=FIRST))

    def test_with_client(self):
        for client in (FIRST, 1, 0xFFFFFFFF):
            for wanted in (FIRST, FIRST + 1):
                request = send(REQUEST, ANN, wanted=wanted, server=SERVER, client=client)
                self.is_silent(OFFERED_TO_ANN, request)

    def test_own_is_lent(self):
        self.acks(OFFERED_TO_ANN, self.request, FIRST)
        self.acks(OFFERED_TO_ANN + [tick(7)], self.request, FIRST)

    def test_own_is_lent_for_how_long_from_now_on(self):
        calls = [opening(long=31536000), send(DISCOVER, ANN), tick(0xFFFFFFFF), self.request, look(FIRST)]
        self.assertEqual(last(*calls), [2, 31536000, 2, 0, 65])
        calls = [opening(long=60), send(DISCOVER, ANN), tick(30), self.request, tick(89), look(FIRST)]
        self.assertEqual(last(*calls), [2, 1, 2, 0, 65])
        self.assertEqual(last(*calls, tick(90), look(FIRST)), [0, 0, 2, 0, 65])

    def test_own_in_whatever_state(self):
        self.acks(OFFERED_TO_ANN + [tick(60)], self.request, FIRST)
        self.acks(OFFERED_TO_ANN + [tick(6000)], self.request, FIRST)
        self.acks(LENT_TO_ANN + [tick(7)], self.request, FIRST)
        self.acks(LENT_TO_ANN + [tick(7000)], self.request, FIRST)
        self.acks(FREED_BY_ANN + [tick(7)], self.request, FIRST)
        self.acks(OFFERED_TO_ANN + [send(REQUEST, ANN, server=OTHER)], self.request, FIRST)

    def test_own_by_relay(self):
        request = send(REQUEST, ANN, wanted=FIRST, server=SERVER, relay=RELAY)
        self.acks(OFFERED_TO_ANN, request, FIRST, relay=RELAY, to=RELAY, port=67)

    def test_not_own(self):
        self.naks([opening()], self.request)
        self.naks(REFUSED_BY_ANN, self.request)
        self.naks(REFUSED_BY_ANN + [tick(600)], self.request)
        self.naks([opening(), send(DISCOVER, BOB)], self.request)
        self.naks(OFFERED_TO_ANN, take(ANN, FIRST + 1))
        self.naks(OFFERED_TO_ANN, take(BOB, FIRST), who=BOB)
        self.naks(OFFERED_TO_ANN + [tick(60), send(DISCOVER, BOB, wanted=FIRST)], self.request)

    def test_not_lent_here(self):
        for wanted in (0, SERVER, FIRST - 1, FIRST + 3, ip("11.0.0.10"), 0xFFFFFFFF):
            self.naks(OFFERED_TO_ANN, take(ANN, wanted))
            self.naks(OFFERED_TO_ANN, take(BOB, wanted), who=BOB)

    def test_nak_leaves_own_as_it_was(self):
        answered = run(*OFFERED_TO_ANN, take(ANN, FIRST + 1), look(FIRST), take(ANN, FIRST))
        self.assertEqual(answered[-2:], [[1, 60, 2, 0, 65], reply(ACK, FIRST, who=ANN)])


class WithoutServer(Requests):
    request = send(REQUEST, ANN, wanted=FIRST)

    def test_with_client(self):
        for client in (FIRST, 1, 0xFFFFFFFF):
            for wanted in (FIRST, FIRST + 1, ip("10.0.1.10")):
                self.is_silent(LENT_TO_ANN, send(REQUEST, ANN, wanted=wanted, client=client))

    def test_on_another_net(self):
        for wanted in (ip("10.0.1.10"), ip("10.0.1.0"), ip("9.255.255.255"), 0, 0xFFFFFFFF):
            for calls in ([opening()], LENT_TO_ANN, REFUSED_BY_ANN):
                self.naks(calls, send(REQUEST, ANN, wanted=wanted))

    def test_on_another_net_by_relay(self):
        for calls in ([opening()], LENT_TO_ANN):
            self.is_silent(calls, send(REQUEST, ANN, wanted=ip("10.0.1.10"), relay=RELAY))

    def test_on_the_net_but_not_lent_here(self):
        for wanted in (SERVER, FIRST - 1, FIRST + 3, ip("10.0.0.0"), ip("10.0.0.255")):
            for relay in (0, RELAY):
                self.is_silent([opening()], send(REQUEST, ANN, wanted=wanted, relay=relay))
                self.is_silent(LENT_TO_ANN, send(REQUEST, ANN, wanted=wanted, relay=relay))

    def test_own(self):
        self.acks(LENT_TO_ANN + [tick(7)], self.request, FIRST)
        self.acks(LENT_TO_ANN + [tick(7000)], self.request, FIRST)
        self.acks(OFFERED_TO_ANN + [tick(7)], self.request, FIRST)
        self.acks(OFFERED_TO_ANN + [tick(70)], self.request, FIRST)
        self.acks(FREED_BY_ANN + [tick(7)], self.request, FIRST)

    def test_own_by_relay(self):
        request = send(REQUEST, ANN, wanted=FIRST, relay=RELAY)
        self.acks(LENT_TO_ANN, request, FIRST, relay=RELAY, to=RELAY, port=67)

    def test_with_another_own(self):
        for calls in (OFFERED_TO_ANN, LENT_TO_ANN, FREED_BY_ANN, LENT_TO_ANN + [tick(7000)]):
            self.naks(calls, send(REQUEST, ANN, wanted=FIRST + 1))
            self.naks(calls + [send(DISCOVER, BOB)], send(REQUEST, ANN, wanted=FIRST + 1))
            request = send(REQUEST, ANN, wanted=FIRST + 1, relay=RELAY)
            self.naks(calls, request, relay=RELAY, to=RELAY, port=67)

    def test_without_any_own(self):
        self.is_silent([opening()], self.request)
        self.is_silent([opening(), send(DISCOVER, BOB)], self.request)
        self.is_silent(REFUSED_BY_ANN, self.request)
        self.is_silent(REFUSED_BY_ANN + [tick(600)], self.request)
        self.is_silent(OFFERED_TO_ANN + [tick(60), send(DISCOVER, DAN, wanted=FIRST)], self.request)


class WithNeither(Requests):
    request = send(REQUEST, ANN, client=FIRST)

    def test_client_nought(self):
        for calls in ([opening()], OFFERED_TO_ANN, LENT_TO_ANN):
            self.is_silent(calls, send(REQUEST, ANN))
            self.is_silent(calls, send(REQUEST, ANN, relay=RELAY))

    def test_client_not_lent_here(self):
        for client in (SERVER, FIRST - 1, FIRST + 3, ip("10.0.1.10"), 1, 0xFFFFFFFF):
            self.is_silent(LENT_TO_ANN, send(REQUEST, ANN, client=client))

    def test_own_and_lent(self):
        self.acks(LENT_TO_ANN + [tick(7)], self.request, FIRST, client=FIRST)

    def test_own_and_lent_and_over(self):
        self.acks(LENT_TO_ANN + [tick(1000)], self.request, FIRST, client=FIRST)
        self.acks(LENT_TO_ANN + [tick(99999)], self.request, FIRST, client=FIRST)

    def test_own_and_lent_by_relay(self):
        request = send(REQUEST, ANN, client=FIRST, relay=RELAY)
        self.acks(LENT_TO_ANN, request, FIRST, client=FIRST, relay=RELAY, to=RELAY, port=67)

    def test_own_but_not_lent(self):
        self.naks(OFFERED_TO_ANN, self.request)
        self.naks(OFFERED_TO_ANN + [tick(60)], self.request)
        self.naks(FREED_BY_ANN, self.request)
        self.naks(LENT_TO_ANN + [tick(1000), send(DISCOVER, ANN)], self.request)

    def test_not_own(self):
        self.naks([opening()], self.request)
        self.naks(REFUSED_BY_ANN, self.request)
        self.naks(LENT_TO_ANN, send(REQUEST, ANN, client=FIRST + 1))
        self.naks(LENT_TO_ANN, send(REQUEST, BOB, client=FIRST), who=BOB)
        self.naks(LENT_TO_ANN + [tick(1000)], send(REQUEST, BOB, client=FIRST), who=BOB)
        self.naks(LENT_TO_ANN + [tick(1000), send(DISCOVER, BOB, wanted=FIRST)], self.request)


if __name__ == "__main__":
    unittest.main()
