"""Promise 2, packet: its refusals, and which packets are right."""

import unittest

from tests.helper import (
    ANN, DISCOVER, FIRST, SERVER, four, last, look, opening, option, packet, raw, reply, run, sending,
)

KIND = [53, 1, DISCOVER]


class Packets(unittest.TestCase):
    def is_right(self, data):
        answered = last(opening(), sending(data))
        self.assertEqual(len(answered), answered[0] + 3)
        self.assertGreaterEqual(answered[0], 300)

    def is_wrong(self, data):
        answered = run(opening(), sending(data), look(FIRST))
        self.assertEqual(answered[1:], [[-2], [0, 0, 0]])


class Refusals(Packets):
    def test_not_opened_comes_first(self):
        for data in ([], packet(DISCOVER), [0] * 1500, [0] * 1501):
            self.assertEqual(run(opening(server=0), sending(data)), [[-1], [-3]])

    def test_too_long_comes_ahead_of_wrong(self):
        self.assertEqual(last(opening(), sending([0] * 1501)), [-1])
        self.assertEqual(last(opening(), sending([0] * 1500)), [-2])
        self.assertEqual(last(opening(), sending([])), [-2])

    def test_a_refused_one_changes_nothing_behind_it(self):
        answered = run(opening(), sending([1, 1, 6]), sending(packet(DISCOVER, ANN)))
        self.assertEqual(answered[1:], [[-2], reply(2, FIRST, who=ANN)])


class Length(Packets):
    def test_shortest(self):
        shortest = raw(KIND + [255])
        self.assertEqual(len(shortest), 244)
        self.is_right(shortest)
        for length in range(0, 244):
            self.is_wrong(shortest[:length])

    def test_longest(self):
        shortest = raw(KIND + [255])
        self.is_right(shortest + [0] * (576 - 244))
        self.is_wrong(shortest + [0] * (577 - 244))
        self.is_wrong(shortest + [0] * (1500 - 244))

    def test_long_by_an_option(self):
        self.is_right(raw(KIND + option(77, [7] * 255) + option(78, [7] * 71) + [255] + [0, 0]))
        self.is_wrong(raw(KIND + option(77, [7] * 255) + option(78, [7] * 72) + [255] + [0, 0]))


class Beginning(Packets):
    def test_first_bytes(self):
        for place in range(3):
            for wrong in (0, 2, 5, 7, 255):
                data = packet(DISCOVER)
                data[place] = wrong
                self.is_wrong(data)

    def test_bytes_ahead_of_the_options(self):
        for place in range(236, 240):
            for step in (1, -1):
                data = packet(DISCOVER)
                data[place] += step
                self.is_wrong(data)

    def test_bytes_that_do_not_matter(self):
        data = raw(KIND + [255], junk=255)
        self.assertEqual(last(opening(), sending(data)), reply(2, FIRST))


class Options(Packets):
    def test_filling_is_nothing(self):
        self.is_right(raw([0, 0] + KIND + [0] + option(50, four(FIRST)) + [0, 0, 0, 255]))
        self.is_right(raw([0] * 330 + KIND + [255]))

    def test_no_end(self):
        self.is_wrong(raw(KIND + [0]))
        self.is_wrong(raw(KIND + [0] * 60))
        self.is_wrong(raw(KIND + option(12, [1, 2])))
        self.is_wrong(raw(KIND + [0, 254]))

    def test_end_within_an_option_is_none(self):
        self.is_wrong(raw(KIND + [12, 1, 255]))
        self.is_right(raw(KIND + [12, 1, 255, 255]))

    def test_cut_off(self):
        self.is_wrong(raw(KIND + [12]))
        self.is_wrong(raw(KIND + [12, 2, 255]))
        self.is_wrong(raw(KIND + [12, 4, 255, 0, 0]))
        self.is_wrong(raw(KIND + [12, 255, 255]))
        self.is_wrong(raw([12, 1, 2, 53, 1]))

    def test_only_zeros_behind_the_end(self):
        self.is_right(raw(KIND + [255] + [0] * 20))
        self.is_wrong(raw(KIND + [255, 1]))
        self.is_wrong(raw(KIND + [255, 255]))
        self.is_wrong(raw(KIND + [255] + [0] * 20 + [1]))
        self.is_wrong(raw(KIND + [255, 0] + option(12, [1])))

    def test_kind_missing(self):
        self.is_wrong(raw([255, 0, 0, 0]))
        self.is_wrong(raw(option(50, four(FIRST)) + [255]))
        self.is_wrong(raw([255] + KIND))

    def test_kind_is_found_behind_others(self):
        self.is_right(raw(option(50, four(FIRST)) + option(12, [3]) + KIND + [255]))

    def test_twice(self):
        self.is_wrong(raw(KIND + KIND + [255]))
        self.is_wrong(raw(KIND + option(50, four(FIRST)) + option(50, four(FIRST)) + [255]))
        self.is_wrong(raw(KIND + option(61, ANN) + option(12, [1]) + option(61, ANN) + [255]))
        self.is_wrong(raw(KIND + option(12, [1]) + option(12, [2]) + [255]))
        self.is_wrong(raw(KIND + [200, 0, 200, 0, 255]))
        self.is_wrong(raw(KIND + [254, 0, 0, 0, 254, 1, 0, 255]))

    def test_overload(self):
        for data in ([1], [2], [3], [], [1, 2]):
            self.is_wrong(raw(KIND + option(52, data) + [255]))

    def test_beside_overload(self):
        # Numbers on both sides of 52 are options like any other.
        self.is_right(raw(KIND + option(51, four(9)) + [49, 0, 56, 0, 255]))

    def test_lengths_that_are_one_number(self):
        for number, right in ((50, 4), (51, 4), (54, 4), (57, 2)):
            for length in (0, 1, 2, 3, 4, 5, 8):
                data = raw(KIND + option(number, [10] * length) + [255])
                if length == right:
                    self.is_right(data)
                else:
                    self.is_wrong(data)

    def test_length_of_kind(self):
        for data in ([], [1, 1], [1, 0], [0, 0, 0, 1]):
            self.is_wrong(raw(option(53, data) + [255, 0]))

    def test_length_of_identifier(self):
        for length in (2, 3, 7, 31, 32):
            self.is_right(raw(KIND + option(61, [7] * length) + [255]))
        for length in (0, 1, 33, 255):
            self.is_wrong(raw(KIND + option(61, [7] * length) + [255]))

    def test_length_of_what_is_asked_for(self):
        for length in (1, 2, 255):
            self.is_right(raw(KIND + option(55, [1] * length) + [255]))
        self.is_wrong(raw(KIND + [55, 0, 255]))

    def test_others_are_not_looked_at(self):
        for number in (1, 3, 6, 12, 58, 59, 60, 82, 254):
            for length in (0, 1, 3, 5, 200):
                self.is_right(raw(KIND + option(number, [9] * length) + [255]))

    def test_one_wrong_among_right_ones(self):
        rest = option(50, four(FIRST)) + option(54, four(SERVER))
        self.is_wrong(raw(KIND + rest + option(57, [1]) + option(61, ANN) + [255]))
        self.is_right(raw(KIND + rest + option(57, [1, 2]) + option(61, ANN) + [255]))


if __name__ == "__main__":
    unittest.main()
