"""The addresses that are lent, each in its state, and the choice among them."""

FREE = 0
OFFERED = 1
LENT = 2
REFUSED = 3


class Place:
    def __init__(self, address):
        self.address = address
        self.state = FREE
        self.till = 0
        # Whoever asks has two bytes at least, so none stand for nobody.
        self.owner = []

    def turn(self, state, till, owner):
        self.state = state
        self.till = till
        self.owner = owner

    def is_free_at(self, now):
        return self.state == FREE or self.till <= now

    def is_own_of(self, who):
        # A refused one is nobody's, so its state needs no look here.
        return self.owner == who


def own_among(places, who):
    for place in places:
        if place.is_own_of(who):
            return place
    return None


def oldest_free(places, now):
    free = [place for place in places if place.is_free_at(now)]
    for place in free:
        if place.owner == []:
            return place
    # Of several that were over at once min takes the first, which is the lowest.
    return min(free, key=lambda one: one.till, default=None)
