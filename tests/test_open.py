"""Promise 1: open."""

import unittest

from tests.helper import (
    ANN, DISCOVER, FIRST, SERVER, ip, last, look, opening, run, send, take, tick,
)


class Right(unittest.TestCase):
    def is_right(self, **changed):
        self.assertEqual(last(opening(**changed)), [0], changed)

    def test_an_ordinary_net(self):
        self.is_right()

    def test_masks(self):
        for ones in range(0, 29):
            mask = (0xFFFFFFFF << (32 - ones)) & 0xFFFFFFFF
            self.is_right(mask=mask, server=ip("10.0.0.1"), first=ip("10.0.0.2"), count=3)

    def test_the_narrowest_net(self):
        self.is_right(mask=0xFFFFFFFE, server=ip("10.0.0.2"), first=ip("10.0.0.3"), count=1)

    def test_how_many(self):
        self.is_right(count=1)
        self.is_right(mask=ip("255.255.0.0"), count=256)

    def test_how_long(self):
        self.is_right(long=60)
        self.is_right(long=31536000)

    def test_the_last_address_there_is(self):
        self.is_right(server=0xFFFFFFF0, mask=0xFFFFFF00, first=0xFFFFFFFD, count=3)

    def test_the_first_address_there_is(self):
        self.is_right(server=5, mask=0xFFFFFF00, first=1, count=3)
        self.is_right(server=1, mask=0xFFFFFF00, first=2, count=3)

    def test_the_server_beside_those_lent(self):
        self.is_right(server=FIRST - 1)
        self.is_right(server=FIRST + 3)

    def test_the_whole_net_but_the_server(self):
        self.is_right(server=ip("10.0.0.0"), first=ip("10.0.0.1"), count=255)
        self.is_right(server=ip("10.0.0.255"), first=ip("10.0.0.0"), count=255)

    def test_way_out_and_names_may_be_any(self):
        self.is_right(way_out=0, names=0)
        self.is_right(way_out=0xFFFFFFFF, names=0xFFFFFFFF)
        self.is_right(way_out=FIRST, names=FIRST)


class Wrong(unittest.TestCase):
    def is_wrong(self, **changed):
        answered = run(opening(**changed), look(FIRST), tick(0), send(DISCOVER))
        self.assertEqual(answered, [[-1], [-3], [-3], [-3]], changed)

    def test_masks(self):
        masks = [0xFF00FF00, 0x00FFFFFF, 1, 2, 0xFFFFFF01, 0xFFFFFDFF, 0xFFFFFF40, 0x80000001]
        for mask in masks + [0xFFFFFFFF ^ (1 << place) for place in range(1, 32)]:
            # But for the mask all is right: the two differ where the mask has a zero.
            zero = ~mask & (mask + 1)
            self.is_wrong(mask=mask, server=SERVER, first=SERVER ^ zero, count=1)

    def test_first_on_another_net(self):
        self.is_wrong(first=ip("10.0.1.10"))
        self.is_wrong(server=ip("11.0.0.1"))
        self.is_wrong(server=ip("10.0.1.1"), first=ip("10.0.0.255"), count=2)
        self.is_wrong(mask=0xFFFFFFFF)

    def test_last_on_another_net(self):
        self.is_wrong(first=ip("10.0.0.255"), count=2)
        self.is_wrong(first=ip("10.0.0.2"), count=255)

    def test_how_many(self):
        self.is_wrong(count=0)
        self.is_wrong(mask=0xFFFF0000, count=257)
        self.is_wrong(mask=0, count=0xFFFFFFFF)

    def test_how_long(self):
        self.is_wrong(long=59)
        self.is_wrong(long=0)
        self.is_wrong(long=31536001)

    def test_last_beyond_all_addresses(self):
        self.is_wrong(server=0xFFFFFFF0, mask=0xFFFFFF00, first=0xFFFFFFFE, count=3)
        self.is_wrong(server=0xF0000000, mask=0, first=0xFFFFFFFF, count=2)

    def test_the_server_among_those_lent(self):
        for server in (FIRST, FIRST + 1, FIRST + 2):
            self.is_wrong(server=server)

    def test_nought(self):
        self.is_wrong(server=0, mask=0xFFFFFF00, first=1)
        self.is_wrong(server=9, mask=0xFFFFFF00, first=0)


class Again(unittest.TestCase):
    def test_begins_anew(self):
        answered = run(
            opening(), tick(50), send(DISCOVER, ANN), take(ANN, FIRST), look(FIRST),
            opening(), look(FIRST), tick(3), look(FIRST), tick(2),
        )
        self.assertEqual(answered[4], [2, 1000, 2, 0, 65])
        self.assertEqual(answered[5:], [[0], [0, 0, 0], [0], [0, 0, 0], [-1]])

    def test_another_net(self):
        other = opening(server=ip("1.2.3.4"), first=ip("1.2.3.5"), count=1)
        answered = run(opening(), other, look(FIRST), look(ip("1.2.3.5")), look(ip("1.2.3.6")))
        self.assertEqual(answered, [[0], [0], [-1], [0, 0, 0], [-1]])

    def test_refused_leaves_nothing(self):
        answered = run(
            opening(), tick(9), send(DISCOVER, ANN), opening(server=0), look(FIRST), tick(10),
            send(DISCOVER, ANN), opening(), look(FIRST), tick(1),
        )
        self.assertEqual(answered[3:], [[-1], [-3], [-3], [-3], [0], [0, 0, 0], [0]])

    def test_each_list_begins_with_none(self):
        run(opening())
        self.assertEqual(run(opening(server=0), look(FIRST)), [[-1], [-3]])
        self.assertEqual(run(opening(), look(SERVER)), [[0], [-1]])


if __name__ == "__main__":
    unittest.main()
