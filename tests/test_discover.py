"""Promise 2, packet: DISCOVER."""

import unittest

from tests.helper import (
    ANN, BOB, CAT, DAN, DECLINE, DISCOVER, FIRST, MACHINE, OFFER, OTHER, RELEASE, REQUEST, SERVER, last,
    look, opening, reply, run, send, take, tick,
)


def lend(who, address):
    """Calls that make an address that is free now and wanted a lent one."""
    return [send(DISCOVER, who, wanted=address), take(who, address)]


def free(who, address):
    return send(RELEASE, who, client=address, server=SERVER)


class Discover(unittest.TestCase):
    def offers(self, address, who, *calls, wanted=None):
        """The calls, and then a DISCOVER that is answered with the address."""
        answered = run(opening(), *calls, send(DISCOVER, who, wanted=wanted), look(address))
        self.assertEqual(answered[-2], reply(OFFER, address, who=who))
        return answered[-1]


class Who(Discover):
    def test_is_the_identifier(self):
        answered = run(opening(), send(DISCOVER, ANN, machine=[7] * 16), look(FIRST))
        self.assertEqual(answered[-1], [1, 60, 2, 0, 65])

    def test_is_the_machine_without_one(self):
        answered = run(opening(), send(DISCOVER), look(FIRST))
        self.assertEqual(answered[-1], [1, 60, 7, 1] + MACHINE[:6])

    def test_first_six_of_the_machine_count_alone(self):
        near = MACHINE[:6] + [0] * 10
        far = MACHINE[:5] + [11] + MACHINE[6:]
        answered = run(
            opening(), send(DISCOVER), send(DISCOVER, machine=near), send(DISCOVER, machine=far),
        )
        self.assertEqual(answered[2], reply(OFFER, FIRST, machine=near))
        self.assertEqual(answered[3], reply(OFFER, FIRST + 1, machine=far))

    def test_identifier_like_the_machine_is_the_same_one(self):
        same = [1] + MACHINE[:6]
        answered = run(opening(), send(DISCOVER), send(DISCOVER, same), send(DISCOVER, same + [0]))
        self.assertEqual(answered[2], reply(OFFER, FIRST, who=same))
        self.assertEqual(answered[3], reply(OFFER, FIRST + 1, who=same + [0]))

    def test_another_identifier_is_another_one(self):
        answered = run(opening(), send(DISCOVER, ANN), send(DISCOVER, BOB), send(DISCOVER))
        self.assertEqual([answer[1] for answer in answered[1:]], [FIRST, FIRST + 1, FIRST + 2])


class Own(Discover):
    def test_offered_is_offered_anew(self):
        seen = self.offers(FIRST, ANN, send(DISCOVER, ANN), tick(59))
        self.assertEqual(seen, [1, 60, 2, 0, 65])

    def test_own_is_ahead_of_wanted(self):
        seen = self.offers(FIRST, ANN, send(DISCOVER, ANN), wanted=FIRST + 1)
        self.assertEqual(seen, [1, 60, 2, 0, 65])

    def test_own_is_ahead_of_nobodys(self):
        self.offers(FIRST + 2, ANN, send(DISCOVER, ANN, wanted=FIRST + 2), tick(60))
        self.offers(FIRST + 2, ANN, *lend(ANN, FIRST + 2), free(ANN, FIRST + 2))

    def test_lent_stays_so(self):
        seen = self.offers(FIRST, ANN, *lend(ANN, FIRST), tick(1))
        self.assertEqual(seen, [2, 999, 2, 0, 65])
        seen = self.offers(FIRST, ANN, *lend(ANN, FIRST), tick(999))
        self.assertEqual(seen, [2, 1, 2, 0, 65])

    def test_lent_and_over_is_offered(self):
        for over in (1000, 1001, 5000):
            seen = self.offers(FIRST, ANN, *lend(ANN, FIRST), tick(over))
            self.assertEqual(seen, [1, 60, 2, 0, 65])

    def test_offered_and_over_is_offered(self):
        for over in (60, 61):
            seen = self.offers(FIRST, ANN, send(DISCOVER, ANN), tick(over))
            self.assertEqual(seen, [1, 60, 2, 0, 65])

    def test_free_is_offered(self):
        seen = self.offers(FIRST, ANN, *lend(ANN, FIRST), tick(5), free(ANN, FIRST))
        self.assertEqual(seen, [1, 60, 2, 0, 65])

    def test_refused_is_no_own(self):
        refuse = send(DECLINE, ANN, wanted=FIRST, server=SERVER)
        self.offers(FIRST + 1, ANN, send(DISCOVER, ANN), refuse)

    def test_taken_by_another_is_no_own(self):
        taken = send(DISCOVER, BOB, wanted=FIRST)
        self.offers(FIRST + 1, ANN, send(DISCOVER, ANN), tick(60), taken)


class Wanted(Discover):
    def test_lent_here_and_free(self):
        for address in (FIRST, FIRST + 1, FIRST + 2):
            self.assertEqual(self.offers(address, ANN, wanted=address), [1, 60, 2, 0, 65])

    def test_not_lent_here(self):
        for address in (0, SERVER, FIRST - 1, FIRST + 3, 0xFFFFFFFF):
            self.offers(FIRST, ANN, wanted=address)

    def test_free_now_that_somebody_had(self):
        # Ahead of the ones that are nobody's.
        self.assertEqual(
            self.offers(FIRST + 1, BOB, send(DISCOVER, ANN, wanted=FIRST + 1), tick(60), wanted=FIRST + 1),
            [1, 60, 2, 0, 66],
        )
        self.offers(FIRST, BOB, *lend(ANN, FIRST), free(ANN, FIRST), wanted=FIRST)
        self.offers(FIRST, BOB, *lend(ANN, FIRST), tick(1000), wanted=FIRST)

    def test_not_free_now(self):
        self.offers(FIRST + 1, BOB, send(DISCOVER, ANN), wanted=FIRST)
        self.offers(FIRST + 1, BOB, send(DISCOVER, ANN), tick(59), wanted=FIRST)
        self.offers(FIRST + 1, BOB, *lend(ANN, FIRST), tick(999), wanted=FIRST)
        refuse = send(DECLINE, ANN, wanted=FIRST, server=SERVER)
        self.offers(FIRST + 1, BOB, send(DISCOVER, ANN), refuse, tick(599), wanted=FIRST)
        self.offers(FIRST, BOB, send(DISCOVER, ANN), refuse, tick(600), wanted=FIRST)

    def test_server_does_not_matter(self):
        answered = run(opening(), send(DISCOVER, ANN, wanted=FIRST + 1, server=OTHER))
        self.assertEqual(answered[-1], reply(OFFER, FIRST + 1, who=ANN))


class Nobodys(Discover):
    def test_the_first(self):
        self.offers(FIRST, ANN)
        self.offers(FIRST + 1, BOB, send(DISCOVER, ANN))
        self.offers(FIRST, BOB, send(DISCOVER, ANN, wanted=FIRST + 1))

    def test_ahead_of_what_others_had(self):
        self.offers(FIRST + 1, BOB, send(DISCOVER, ANN), tick(100))
        self.offers(FIRST + 2, CAT, send(DISCOVER, ANN), send(DISCOVER, BOB), tick(100))
        self.offers(FIRST + 1, BOB, *lend(ANN, FIRST), free(ANN, FIRST))

    def test_refused_and_over(self):
        refuse = send(DECLINE, ANN, wanted=FIRST, server=SERVER)
        begun = [send(DISCOVER, ANN), refuse, send(DISCOVER, BOB), send(DISCOVER, CAT)]
        self.assertEqual(self.offers(FIRST, DAN, *begun, tick(600)), [1, 60, 2, 0, 68])
        self.offers(FIRST + 1, DAN, *begun, tick(599))


class OverFirst(Discover):
    def test_the_one_whose_time_was_over_first(self):
        begun = [
            send(DISCOVER, ANN, wanted=FIRST + 1), tick(1), send(DISCOVER, BOB, wanted=FIRST + 2),
            tick(2), send(DISCOVER, CAT),
        ]
        self.assertEqual(self.offers(FIRST + 1, DAN, *begun, tick(1000)), [1, 60, 2, 0, 68])
        self.offers(FIRST + 1, DAN, *begun, tick(60))
        renewed = begun + [tick(3), send(DISCOVER, ANN)]
        self.offers(FIRST + 2, DAN, *renewed, tick(61))
        self.offers(FIRST + 2, DAN, *renewed, tick(1000))

    def test_the_lowest_of_those(self):
        begun = [send(DISCOVER, ANN, wanted=FIRST + 2), send(DISCOVER, BOB, wanted=FIRST + 1)]
        self.offers(FIRST + 1, DAN, *begun, *lend(CAT, FIRST), tick(60))
        self.offers(FIRST, DAN, *begun, send(DISCOVER, CAT), tick(60))

    def test_when_it_was_released_counts(self):
        begun = lend(ANN, FIRST) + lend(BOB, FIRST + 1) + lend(CAT, FIRST + 2)
        begun += [tick(10), free(CAT, FIRST + 2), tick(20), free(ANN, FIRST)]
        self.offers(FIRST + 2, DAN, *begun)
        self.offers(FIRST + 2, DAN, *begun, tick(1000))

    def test_when_it_was_given_up_for_another_server_counts(self):
        begun = [send(DISCOVER, who) for who in (ANN, BOB, CAT)]
        begun += [tick(10), send(REQUEST, BOB, server=OTHER), tick(20), send(REQUEST, ANN, server=OTHER)]
        self.offers(FIRST + 1, DAN, *begun)


class NoneLeft(unittest.TestCase):
    full = [send(DISCOVER, ANN), send(DISCOVER, BOB), send(DISCOVER, CAT)]

    def test_no_answer(self):
        self.assertEqual(last(opening(), *self.full, send(DISCOVER, DAN)), [0])
        self.assertEqual(last(opening(), *self.full, tick(59), send(DISCOVER, DAN, FIRST)), [0])
        self.assertEqual(last(opening(count=1), *lend(ANN, FIRST), tick(999), send(DISCOVER, BOB)), [0])

    def test_those_with_their_own_are_answered(self):
        answered = last(opening(), *self.full, send(DISCOVER, BOB))
        self.assertEqual(answered, reply(OFFER, FIRST + 1, who=BOB))

    def test_all_refused(self):
        refuse = send(DECLINE, ANN, wanted=FIRST, server=SERVER)
        answered = run(
            opening(count=1), send(DISCOVER, ANN), refuse, send(DISCOVER, ANN), tick(599),
            send(DISCOVER, ANN), tick(600), send(DISCOVER, ANN),
        )
        self.assertEqual(answered[3:], [[0], [0], [0], [0], reply(OFFER, FIRST, who=ANN)])


class ManyAtOnce(unittest.TestCase):
    def test_256_addresses(self):
        wide = opening(mask=0xFFFF0000, count=256)
        calls = [send(DISCOVER, [1, number]) for number in range(0, 99)]
        answered = run(wide, *calls)
        self.assertEqual([answer[1] for answer in answered[1:]], [FIRST + step for step in range(99)])
        answered = run(wide, send(DISCOVER, ANN, wanted=FIRST + 255), look(FIRST + 255), look(FIRST + 256))
        self.assertEqual(answered[1:], [reply(OFFER, FIRST + 255, who=ANN, lent=wide[2:]), [1, 60, 2, 0, 65], [-1]])


if __name__ == "__main__":
    unittest.main()
