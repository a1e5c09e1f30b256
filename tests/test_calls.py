"""The interface: how calls are handed in and answers are given back."""

import random
import unittest

from lentplaces.server import answers
from tests.helper import (
    ANN, BOB, DISCOVER, FIRST, SERVER, look, net, opening, packet, reply, run, send, sending, take, tick,
)


class Form(unittest.TestCase):
    def test_written_out(self):
        calls = [0, 7, 167772161, 4294967040, 0, 0, 167772170, 2, 60, 2, 5, 3, 167772170, 2, 4, 3, 9]
        self.assertEqual(answers(calls + [1, 0]), [1, 0, 1, 0, 3, 0, 0, 0, 1, -1, 1, -1, 1, -2])

    def test_an_answer_is_counted_whole(self):
        offer = reply(2, FIRST, who=ANN)
        self.assertEqual(answers(opening() + send(DISCOVER, ANN)), [1, 0, 303] + offer)
        self.assertEqual(answers(opening() + send(DISCOVER, ANN) + look(FIRST))[-6:], [5, 1, 60, 2, 0, 65])

    def test_one_call(self):
        self.assertEqual(answers(opening()), [1, 0])
        self.assertEqual(answers(opening(count=0)), [1, -1])

    def test_300_calls(self):
        calls = [opening()] + [look(FIRST)] * 299
        self.assertEqual(run(*calls), [[0]] + [[0, 0, 0]] * 299)


class NothingKept(unittest.TestCase):
    def test_from_one_time_to_the_next(self):
        full = opening(count=1) + send(DISCOVER, ANN) + take(ANN, FIRST)
        first = answers(list(full))
        self.assertEqual(answers(opening(count=1) + send(DISCOVER, BOB))[2:], [303] + reply(2, FIRST, who=BOB))
        self.assertEqual(answers(list(full)), first)

    def test_what_is_given_back_is_a_new_list(self):
        calls = opening() + send(DISCOVER, ANN)
        first = answers(calls)
        first.clear()
        self.assertEqual(len(answers(calls)), 306)


class ByChance(unittest.TestCase):
    """Many calls with small numbers, that the document's rules hold for all along."""

    def some_call(self, chance):
        kind = chance.randrange(9)
        address = FIRST + chance.randrange(-1, 4)
        if kind == 0:
            return look(address)
        if kind == 1:
            return tick(chance.randrange(2000))
        return send(
            chance.choice([1, 1, 1, 3, 3, 3, 3, 4, 7, 8]), chance.choice([None, ANN, BOB, [3, 3]]),
            wanted=chance.choice([None, address, address]), server=chance.choice([None, SERVER, SERVER, 5]),
            client=chance.choice([0, 0, address]), relay=chance.choice([0, 0, 9]),
        )

    def test_answers_keep_their_form(self):
        chance = random.Random(5)
        for count in range(60):
            calls = [opening()] + [self.some_call(chance) for step in range(60)]
            for call, answer in zip(calls, run(*calls)):
                if call[0] == 3 and answer != [-1]:
                    self.assertEqual(len(answer), 3 + answer[2])
                    self.assertIn(answer[0], (0, 1, 2, 3))
                    self.assertEqual(answer[1] == 0, answer[0] == 0)
                elif call[0] == 1 and answer != [0]:
                    self.assertEqual(len(answer), 3 + answer[0])
                else:
                    self.assertIn(answer, ([0], [-1]))

    def test_nobody_has_two_of_their_own(self):
        chance = random.Random(6)
        looks = [look(FIRST + step) for step in range(3)]
        for count in range(60):
            calls = [self.some_call(chance) for step in range(60)]
            owners = [tuple(answer[3:]) for answer in run(opening(), *calls, *looks)[-3:]]
            owners = [owner for owner in owners if owner]
            self.assertEqual(len(owners), len(set(owners)))

    def test_bytes_changed_by_chance_are_answered(self):
        chance = random.Random(7)
        for count in range(300):
            data = packet(DISCOVER, ANN, wanted=FIRST)
            data[chance.randrange(len(data))] = chance.randrange(256)
            data = data[:chance.choice([len(data), chance.randrange(len(data))])]
            answer = run([0, 7] + net(), sending(data))[1]
            self.assertIn(answer[0], (-2, 0, 300))


if __name__ == "__main__":
    unittest.main()
