"""The calls on one server: how they stand in a list, and what each answers."""

from lentplaces.lending import Lender
from lentplaces.nets import Net
from lentplaces.packets import read_message

OPEN = 0
PACKET = 1
TICK = 2

MOST_BYTES = 1500


class Desk:
    def __init__(self):
        self.lender = None

    def respond(self, call, given):
        if call == OPEN:
            return self.begin(given)
        if self.lender is None:
            return [-3]
        if call == PACKET:
            return self.take(given)
        if call == TICK:
            return self.lender.tick(given[0])
        return self.lender.look(given[0])

    def begin(self, numbers):
        net = Net(numbers)
        if not net.is_right():
            self.lender = None
            return [-1]
        self.lender = Lender(net)
        return [0]

    def take(self, packet):
        if len(packet) > MOST_BYTES:
            return [-1]
        message = read_message(packet)
        if message is None:
            return [-2]
        return self.lender.handle(message)


def answers(calls):
    desk = Desk()
    answered = []
    at = 0
    while at < len(calls):
        call = calls[at]
        start = at + 1
        behind = at + 2
        if call == OPEN or call == PACKET:
            start = at + 2
            behind = start + calls[at + 1]
        answer = desk.respond(call, calls[start:behind])
        answered.append(len(answer))
        answered.extend(answer)
        at = behind
    return answered
