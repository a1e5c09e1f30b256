"""The net that a server lends addresses of."""

ALL_ONES = 4294967295
MOST_PLACES = 256
SHORTEST_LOAN = 60
LONGEST_LOAN = 31536000


class Net:
    def __init__(self, numbers):
        self.server = numbers[0]
        self.mask = numbers[1]
        self.way_out = numbers[2]
        self.names = numbers[3]
        self.first = numbers[4]
        self.how_many = numbers[5]
        self.how_long = numbers[6]
        self.last = self.first + self.how_many - 1

    def lends(self, address):
        return self.first <= address <= self.last

    def shares_net(self, address):
        return (address & self.mask) == (self.server & self.mask)

    def is_right(self):
        if self.server == 0 or self.first == 0 or not is_mask(self.mask):
            return False
        if not 1 <= self.how_many <= MOST_PLACES:
            return False
        if not SHORTEST_LOAN <= self.how_long <= LONGEST_LOAN:
            return False
        if self.last > ALL_ONES or self.lends(self.server):
            return False
        return self.shares_net(self.first) and self.shares_net(self.last)


def is_mask(mask):
    # Turned about, the zeros are a run of ones from the lowest place up: one
    # more then carries through all of them and shares no place with them.
    turned = ALL_ONES - mask
    return (turned & (turned + 1)) == 0
