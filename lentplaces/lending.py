"""What is done with a packet that is right, and what is kept of it."""

from lentplaces.places import FREE, LENT, OFFERED, REFUSED, Place, oldest_free, own_among
from lentplaces.replies import ACK, NAK, OFFER, reply

DISCOVER = 1
REQUEST = 3
DECLINE = 4
RELEASE = 7
INFORM = 8

OFFER_SECONDS = 60
REFUSED_SECONDS = 600


class Lender:
    def __init__(self, net):
        self.net = net
        self.now = 0
        self.places = [Place(address) for address in range(net.first, net.last + 1)]

    def tick(self, seconds):
        if seconds < self.now:
            return [-1]
        self.now = seconds
        return [0]

    def look(self, address):
        place = self.place_at(address)
        if place is None:
            return [-1]
        seconds = max(place.till - self.now, 0)
        state = place.state
        if place.is_free_at(self.now):
            state = FREE
        return [state, seconds, len(place.owner)] + place.owner

    def handle(self, message):
        if message.kind == DISCOVER:
            return self.discover(message)
        if message.kind == REQUEST:
            return self.request(message)
        if message.kind == DECLINE:
            self.decline(message)
        elif message.kind == RELEASE:
            self.release(message)
        elif message.kind == INFORM and message.client != 0:
            return reply(self.net, message, ACK, 0)
        return [0]

    def place_at(self, address):
        if address is None or not self.net.lends(address):
            return None
        return self.places[address - self.net.first]

    def own_at(self, address, who):
        place = self.place_at(address)
        if place is None or not place.is_own_of(who):
            return None
        return place

    def discover(self, message):
        place = self.choose(message)
        if place is None:
            return [0]
        if place.state != LENT or place.is_free_at(self.now):
            place.turn(OFFERED, self.now + OFFER_SECONDS, message.who)
        return reply(self.net, message, OFFER, place.address)

    def choose(self, message):
        own = own_among(self.places, message.who)
        if own is not None:
            return own
        wanted = self.place_at(message.wanted)
        if wanted is not None and wanted.is_free_at(self.now):
            return wanted
        return oldest_free(self.places, self.now)

    def request(self, message):
        if message.server is None and message.wanted is None:
            return self.request_again(message)
        if message.server is None:
            return self.request_known(message)
        if message.server == self.net.server:
            return self.request_offered(message)
        self.take_back(message.who)
        return [0]

    def request_offered(self, message):
        if message.wanted is None or message.client != 0:
            return [0]
        place = self.own_at(message.wanted, message.who)
        if place is None:
            return self.deny(message)
        return self.lend(place, message)

    def request_known(self, message):
        if message.client != 0:
            return [0]
        if message.relay == 0 and not self.net.shares_net(message.wanted):
            return self.deny(message)
        if not self.net.lends(message.wanted):
            return [0]
        place = self.own_at(message.wanted, message.who)
        if place is not None:
            return self.lend(place, message)
        if own_among(self.places, message.who) is not None:
            return self.deny(message)
        return [0]

    def request_again(self, message):
        # Client 0 is held here as well, as 0 is never lent.
        if not self.net.lends(message.client):
            return [0]
        place = self.own_at(message.client, message.who)
        if place is None or place.state != LENT:
            return self.deny(message)
        return self.lend(place, message)

    def lend(self, place, message):
        place.turn(LENT, self.now + self.net.how_long, message.who)
        return reply(self.net, message, ACK, place.address)

    def deny(self, message):
        return reply(self.net, message, NAK, 0)

    def take_back(self, who):
        # Another address is only taken by those with none, so nobody has two.
        place = own_among(self.places, who)
        if place is not None and place.state == OFFERED:
            place.turn(FREE, self.now, who)

    def decline(self, message):
        place = self.own_at(message.wanted, message.who)
        if place is None or place.state == FREE or message.server != self.net.server:
            return
        place.turn(REFUSED, self.now + REFUSED_SECONDS, [])

    def release(self, message):
        place = self.own_at(message.client, message.who)
        if place is None or place.state != LENT or message.server != self.net.server:
            return
        place.turn(FREE, self.now, message.who)
