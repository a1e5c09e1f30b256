"""Promises 3 and 4: tick and look."""

import unittest

from tests.helper import (
    ANN, BOB, CAT, DECLINE, DISCOVER, FIRST, MACHINE, RELEASE, SERVER, ip, look, opening, run, send, take,
    tick,
)

REFUSE = send(DECLINE, ANN, wanted=FIRST, server=SERVER)


class Tick(unittest.TestCase):
    def test_more_and_the_same(self):
        calls = [tick(0), tick(0), tick(1), tick(1), tick(500), tick(0xFFFFFFFF), tick(0xFFFFFFFF)]
        self.assertEqual(run(opening(), *calls), [[0]] * 8)

    def test_less(self):
        calls = [tick(10), tick(9), tick(0), tick(10), tick(9), tick(11), tick(10)]
        self.assertEqual(run(opening(), *calls), [[0], [0], [-1], [-1], [0], [-1], [0], [-1]])

    def test_less_leaves_the_time(self):
        answered = run(opening(), send(DISCOVER, ANN), tick(10), tick(5), look(FIRST), tick(11), look(FIRST))
        self.assertEqual(answered[3:], [[-1], [1, 50, 2, 0, 65], [0], [1, 49, 2, 0, 65]])

    def test_ahead_of_an_open_net(self):
        self.assertEqual(run(opening(count=0), tick(0), tick(5)), [[-1], [-3], [-3]])

    def test_a_time_ahead_of_an_open_net_does_not_count(self):
        answered = run(opening(count=0), tick(5), opening(), tick(4))
        self.assertEqual(answered, [[-1], [-3], [0], [0]])


class Look(unittest.TestCase):
    def looks(self, seen, *calls, address=FIRST):
        self.assertEqual(run(opening(), *calls, look(address))[-1], seen)

    def test_free(self):
        for address in (FIRST, FIRST + 1, FIRST + 2):
            self.looks([0, 0, 0], address=address)
            self.looks([0, 0, 0], tick(7), address=address)

    def test_offered(self):
        self.looks([1, 60, 2, 0, 65], send(DISCOVER, ANN))
        self.looks([1, 1, 2, 0, 65], send(DISCOVER, ANN), tick(59))
        self.looks([0, 0, 2, 0, 65], send(DISCOVER, ANN), tick(60))
        self.looks([0, 0, 2, 0, 65], send(DISCOVER, ANN), tick(61))

    def test_lent(self):
        calls = [send(DISCOVER, ANN), tick(3), take(ANN, FIRST)]
        self.looks([2, 1000, 2, 0, 65], *calls)
        self.looks([2, 1, 2, 0, 65], *calls, tick(1002))
        self.looks([0, 0, 2, 0, 65], *calls, tick(1003))
        self.looks([0, 0, 2, 0, 65], *calls, tick(0xFFFFFFFF))

    def test_refused(self):
        calls = [send(DISCOVER, ANN), tick(3), REFUSE]
        self.looks([3, 600, 0], *calls)
        self.looks([3, 1, 0], *calls, tick(602))
        self.looks([0, 0, 0], *calls, tick(603))
        self.looks([0, 0, 0], *calls, tick(604))

    def test_released(self):
        calls = [send(DISCOVER, ANN), take(ANN, FIRST), tick(3), send(RELEASE, ANN, client=FIRST, server=SERVER)]
        self.looks([0, 0, 2, 0, 65], *calls)
        self.looks([0, 0, 2, 0, 65], *calls, tick(9))

    def test_owner_is_told_whole(self):
        self.looks([1, 60, 7, 1] + MACHINE[:6], send(DISCOVER))
        long = list(range(224, 256))
        self.looks([1, 60, 32] + long, send(DISCOVER, long))
        self.looks([1, 60, 2, 0, 0], send(DISCOVER, [0, 0]))

    def test_each_address_has_its_own(self):
        calls = [send(DISCOVER, ANN), REFUSE, tick(10), send(DISCOVER, BOB), take(BOB, FIRST + 1), send(DISCOVER, CAT)]
        self.looks([3, 590, 0], *calls, address=FIRST)
        self.looks([2, 1000, 2, 0, 66], *calls, address=FIRST + 1)
        self.looks([1, 60, 2, 0, 67], *calls, address=FIRST + 2)

    def test_not_lent_here(self):
        for address in (0, SERVER, FIRST - 1, FIRST + 3, ip("10.0.1.10"), 0xFFFFFFFF):
            self.looks([-1], address=address)

    def test_a_look_changes_nothing(self):
        self.looks([1, 60, 2, 0, 65], send(DISCOVER, ANN), look(FIRST), look(FIRST))

    def test_ahead_of_an_open_net(self):
        self.assertEqual(run(opening(long=0), look(FIRST), look(0)), [[-1], [-3], [-3]])


if __name__ == "__main__":
    unittest.main()
